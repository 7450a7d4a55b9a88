"""Points 21 and 22: in which order pending packages are set up."""

import itertools
import random
import unittest

from halfsetup.editions import Edition
from halfsetup.orders import fewest_forced, hopeless, pending, rings, setup_order
from halfsetup.stores import Store
from halfsetup.systems import System

ALL = ("clean", "enter", "leave", "setup")


def made_system(needs, states=None, scripts=None):
    """A system of packages in version 1, all of them unpacked if nothing else is told."""
    store = Store(tuple(
        Edition(name, 1, needs=tuple((other, 1) for other in sorted(needs[name])), scripts=(scripts or {}).get(name, ALL))
        for name in needs))
    return System(store, {name: (states or {}).get(name, ("unpacked", 1, 0)) for name in needs})


def random_pending(chooser):
    """A system of up to four packages with several needs each, most of which are pending."""
    names = "abcd"[:chooser.randint(1, 4)]
    often = chooser.choice((0.2, 0.4, 0.6))
    editions = []
    for name in names:
        for version in (1, 2):
            needs = tuple((other, chooser.choice((1, 1, 2))) for other in "abcdx"
                          if other != name and chooser.random() < (often if other != "x" else 0.05))
            editions.append(Edition(name, version, needs=needs, scripts=chooser.choice((ALL, (), ("clean",), ("setup",)))))
    states = {}
    for name in names:
        status = chooser.choice(("unpacked", "unpacked", "failed", "failed", "unpacked", "ready", "half", "absent"))
        version = chooser.choice((1, 2, 2))
        if status != "absent":
            states[name] = (status, version, version if status == "ready" else chooser.choice((0, 1, 2)))
    return System(Store(tuple(editions)), states)


def needs_of(system, name):
    return system.store[(name, system[name][1])].needs


def meets(system, name, need, statuses):
    return name == need[0] and system[name][0] in statuses and system[name][1] >= need[1]


def met_by_ready(system, need):
    return any(meets(system, name, need, ("ready",)) for name in system.store.names)


def met_by(system, names, need):
    return any(meets(system, name, need, ("unpacked", "failed")) for name in names)


def pending_names(system):
    return [name for name in system.store.names if system[name][0] in ("unpacked", "failed")]


def subsets(names):
    return [some for length in range(len(names) + 1) for some in itertools.combinations(names, length)]


def tried_hopeless(system):
    """The fewest pending packages for which the rule of point 21 holds, by trying all sets."""
    names = pending_names(system)
    fitting = []
    for some in subsets(names):
        others = [name for name in names if name not in some]
        lacking = [name for name in names
                   if not all(met_by_ready(system, need) or met_by(system, others, need)
                              for need in needs_of(system, name))]
        if lacking == list(some):
            fitting.append(some)
    shortest = [some for some in fitting if len(some) == len(fitting[0])]
    assert len(shortest) == 1
    return list(shortest[0])


def leads_to(system, one, other):
    """Whether a package needs another one, by trying all rows of packages between them."""
    names = pending_names(system)
    for length in range(len(names)):
        for between in itertools.permutations(names, length):
            row = (one, *between, other)
            if all(any(meets(system, row[at + 1], need, ("unpacked", "failed")) for need in needs_of(system, row[at]))
                   for at in range(len(row) - 1)):
                return True
    return False


def tried_rings(system):
    fitting = [some for some in subsets(pending_names(system)) if len(some) >= 2
               and all(leads_to(system, one, other) for one, other in itertools.permutations(some, 2))]
    return sorted(some for some in fitting if not any(set(some) < set(other) for other in fitting))


def forced_in(system, order):
    return [name for at, name in enumerate(order)
            if not all(met_by_ready(system, need) or met_by(system, order[:at], need)
                       for need in needs_of(system, name))]


def tried_fewest_forced(system):
    names = [name for name in pending_names(system) if name not in tried_hopeless(system)]
    return min((len(forced_in(system, order)), order) for order in itertools.permutations(names))


class PendingTest(unittest.TestCase):
    def test_the_interface_example(self):
        db, lib = Edition("db", 1, needs=(("lib", 1),)), Edition("lib", 1, scripts=(), needs=(("db", 1),))
        store = Store((db, lib, Edition("web", 1, needs=(("app", 1),))))
        system = System(store, {name: ("unpacked", 1, 0) for name in ("db", "lib", "web")})
        self.assertEqual(
            [hopeless(system), rings(system), setup_order(system), fewest_forced(system)],
            [["web"], [("db", "lib")], [("lib", True), ("db", False)], (1, ("db", "lib"))])

    def test_which_statuses_are_pending(self):
        store = Store(tuple(Edition(name, 1) for name in ("d", "c", "b", "a")))
        system = System(store, {"d": ("unpacked", 1, 0), "c": ("half", 1, 0), "b": ("failed", 1, 1), "a": ("left", 1, 1)})
        self.assertEqual(pending(system), ["b", "d"])
        self.assertEqual(pending(System(store, {"a": ("ready", 1, 1)})), [])

    def test_nothing_pending(self):
        system = made_system({"a": "b", "b": "a"}, {"a": ("ready", 1, 1), "b": ("half", 1, 0)})
        self.assertEqual([pending(system), hopeless(system), rings(system), setup_order(system)], [[], [], [], []])
        self.assertEqual(fewest_forced(system), (0, ()))

    def test_arguments_are_not_modified_and_lists_may_be(self):
        system = made_system({"a": "b", "b": "a", "c": "x"})
        for ask in (pending, hopeless, rings, setup_order):
            before = ask(system)
            ask(system).clear()
            self.assertEqual(ask(system), before)
            self.assertTrue(before)
        self.assertEqual(set(system.states.values()), {("unpacked", 1, 0)})

    def test_kinds_of_values(self):
        system = made_system({"a": "b", "b": "a"})
        self.assertEqual([type(ask(system)) for ask in (pending, hopeless, rings, setup_order, fewest_forced)],
                         [list, list, list, list, tuple])
        self.assertIs(setup_order(system)[0][1], True)
        self.assertIs(setup_order(system)[1][1], False)


class HopelessTest(unittest.TestCase):
    def test_needs_that_no_one_meets(self):
        self.assertEqual(hopeless(made_system({"a": "", "b": "x"})), ["b"])
        for state in (("half", 1, 1), ("left", 1, 1), ("absent", 0, 0)):
            self.assertEqual(hopeless(made_system({"a": "b", "b": ""}, {"b": state})), ["a"])

    def test_needs_that_a_ready_or_a_pending_package_meets(self):
        for state in (("ready", 1, 1), ("unpacked", 1, 0), ("failed", 1, 0)):
            self.assertEqual(hopeless(made_system({"a": "b", "b": ""}, {"b": state})), [])

    def test_through_hopeless_ones(self):
        self.assertEqual(hopeless(made_system({"a": "b", "b": "c", "c": "x", "d": ""})), ["a", "b", "c"])
        self.assertEqual(hopeless(made_system({"a": "", "b": "a", "c": "bd", "d": "x"})), ["c", "d"])

    def test_the_needs_of_a_ready_package_do_not_matter(self):
        self.assertEqual(hopeless(made_system({"a": "b", "b": "x"}, {"b": ("ready", 1, 1)})), [])

    def test_a_ring_is_not_hopeless(self):
        self.assertEqual(hopeless(made_system({"a": "b", "b": "c", "c": "a"})), [])

    def test_a_hopeless_package_in_a_ring(self):
        system = made_system({"a": "b", "b": "ac", "c": "x"})
        self.assertEqual(hopeless(system), ["a", "b", "c"])
        self.assertEqual(rings(system), [("a", "b")])
        self.assertEqual([setup_order(system), fewest_forced(system)], [[], (0, ())])

    def test_a_need_of_a_higher_version(self):
        store = Store((Edition("a", 1, needs=(("b", 2),)), Edition("b", 1), Edition("b", 2), Edition("b", 3)))
        for status in ("unpacked", "failed", "ready"):
            for version, expected in ((1, ["a"]), (2, []), (3, [])):
                system = System(store, {"a": ("failed", 1, 1), "b": (status, version, version)})
                self.assertEqual(hopeless(system), expected)
        # What was set up last does not count.
        self.assertEqual(hopeless(System(store, {"a": ("unpacked", 1, 0), "b": ("unpacked", 1, 3)})), ["a"])

    def test_the_edition_of_the_state_counts(self):
        store = Store((Edition("a", 1, needs=(("x", 1),)), Edition("a", 2)))
        self.assertEqual(hopeless(System(store, {"a": ("unpacked", 2, 1)})), [])
        self.assertEqual(hopeless(System(store, {"a": ("unpacked", 1, 2)})), ["a"])


class RingsTest(unittest.TestCase):
    def test_rings_of_two_three_and_four(self):
        self.assertEqual(rings(made_system({"a": "b", "b": "a"})), [("a", "b")])
        self.assertEqual(rings(made_system({"a": "c", "b": "a", "c": "b", "d": "a"})), [("a", "b", "c")])
        self.assertEqual(rings(made_system({"a": "c", "b": "d", "c": "b", "d": "a"})), [("a", "b", "c", "d")])

    def test_two_rings_at_once(self):
        self.assertEqual(rings(made_system({"a": "c", "b": "d", "c": "a", "d": "b"})), [("a", "c"), ("b", "d")])
        # The first one needs the second one, but not the other way round.
        self.assertEqual(rings(made_system({"a": "bc", "b": "a", "c": "d", "d": "c"})), [("a", "b"), ("c", "d")])

    def test_two_rings_with_a_common_package_are_one(self):
        self.assertEqual(rings(made_system({"a": "b", "b": "ac", "c": "b"})), [("a", "b", "c")])

    def test_no_rings(self):
        self.assertEqual(rings(made_system({"a": "b", "b": "c", "c": ""})), [])
        self.assertEqual(rings(made_system({"a": ""})), [])

    def test_only_pending_packages_are_in_a_ring_or_between(self):
        for state in (("ready", 1, 1), ("half", 1, 0), ("left", 1, 0)):
            self.assertEqual(rings(made_system({"a": "b", "b": "a"}, {"b": state})), [])
            self.assertEqual(rings(made_system({"a": "b", "b": "c", "c": "a"}, {"c": state})), [])
        self.assertEqual(rings(made_system({"a": "b", "b": "a"}, {"b": ("failed", 1, 1)})), [("a", "b")])

    def test_hopeless_packages_are_in_rings(self):
        system = made_system({"a": "bx", "b": "a"})
        self.assertEqual([rings(system), hopeless(system)], [[("a", "b")], ["a", "b"]])

    def test_a_need_that_the_pending_package_would_not_meet(self):
        store = Store((Edition("a", 1, needs=(("b", 2),)), Edition("b", 1, needs=(("a", 1),)),
                       Edition("b", 2, needs=(("a", 1),))))
        self.assertEqual(rings(System(store, {"a": ("unpacked", 1, 0), "b": ("unpacked", 1, 2)})), [])
        self.assertEqual(rings(System(store, {"a": ("unpacked", 1, 0), "b": ("unpacked", 2, 0)})), [("a", "b")])


class SetupOrderTest(unittest.TestCase):
    def test_the_least_package_whose_needs_are_met(self):
        self.assertEqual(setup_order(made_system({"a": "c", "b": "", "c": "", "d": ""})),
                         [("b", False), ("c", False), ("a", False), ("d", False)])
        self.assertEqual(setup_order(made_system({"a": "b", "b": "c", "c": ""}, {"c": ("ready", 1, 1)})),
                         [("b", False), ("a", False)])

    def test_forced_packages_without_a_script_setup(self):
        needs = {"a": "c", "b": "a", "c": "b"}
        self.assertEqual(setup_order(made_system(needs)), [("a", True), ("b", False), ("c", False)])
        for scripts in ((), ("clean", "enter", "leave")):
            self.assertEqual(setup_order(made_system(needs, scripts={"c": scripts})),
                             [("c", True), ("a", False), ("b", False)])
            self.assertEqual(setup_order(made_system(needs, scripts={"c": scripts, "b": scripts})),
                             [("b", True), ("c", False), ("a", False)])

    def test_met_needs_come_before_packages_without_a_script(self):
        self.assertEqual(setup_order(made_system({"a": "c", "b": "", "c": "a"}, scripts={"c": ()})),
                         [("b", False), ("c", True), ("a", False)])

    def test_two_forced_packages(self):
        self.assertEqual(setup_order(made_system({"a": "b", "b": "a", "c": "d", "d": "c"})),
                         [("a", True), ("b", False), ("c", True), ("d", False)])

    def test_more_are_forced_than_need_be(self):
        # To force b first would be enough, but a and c are less or without a script.
        system = made_system({"a": "b", "b": "ac", "c": "b"})
        self.assertEqual(setup_order(system), [("a", True), ("b", True), ("c", False)])
        self.assertEqual(fewest_forced(system), (1, ("b", "a", "c")))

    def test_hopeless_packages_are_not_set_up(self):
        self.assertEqual(setup_order(made_system({"a": "x", "b": "", "c": "a"})), [("b", False)])

    def test_versions_that_are_set_up_before(self):
        store = Store((Edition("a", 1, needs=(("b", 2),)), Edition("b", 2, needs=(("a", 1),))))
        system = System(store, {"a": ("failed", 1, 1), "b": ("failed", 2, 2)})
        self.assertEqual(setup_order(system), [("a", True), ("b", False)])


class FewestForcedTest(unittest.TestCase):
    def test_nothing_forced(self):
        self.assertEqual(fewest_forced(made_system({"a": "c", "b": "", "c": ""})), (0, ("b", "c", "a")))

    def test_several_orders_with_equally_few(self):
        self.assertEqual(fewest_forced(made_system({"a": "b", "b": "a"}, scripts={"b": ()})), (1, ("a", "b")))
        self.assertEqual(fewest_forced(made_system({"a": "b", "b": "c", "c": "a", "d": ""})), (1, ("a", "c", "b", "d")))
        self.assertEqual(fewest_forced(made_system({"a": "b", "b": "a", "c": "d", "d": "c"})),
                         (2, ("a", "b", "c", "d")))

    def test_all_but_one(self):
        self.assertEqual(fewest_forced(made_system({"a": "bcd", "b": "acd", "c": "abd", "d": "abc"})),
                         (3, ("a", "b", "c", "d")))

    def test_hopeless_packages_are_not_in_the_order(self):
        self.assertEqual(fewest_forced(made_system({"a": "x", "b": "c", "c": "b"})), (1, ("b", "c")))

    def test_a_single_package(self):
        self.assertEqual(fewest_forced(made_system({"a": ""})), (0, ("a",)))


class TryingAllTest(unittest.TestCase):
    def test_trying_all_sets_and_orders(self):
        chooser = random.Random(22)
        counts = set()
        for _ in range(600):
            system = random_pending(chooser)
            counts.add((len(hopeless(system)), len(rings(system)), fewest_forced(system)[0]))
            with self.subTest((system.states, [needs_of(system, name) for name in pending_names(system)])):
                self.assertEqual(pending(system), pending_names(system))
                self.assertEqual(hopeless(system), tried_hopeless(system))
                self.assertEqual(rings(system), tried_rings(system))
                self.assertEqual(fewest_forced(system), tried_fewest_forced(system))
                self.assert_order(system)
        for at, most in ((0, 3), (1, 1), (2, 2)):
            self.assertLessEqual(set(range(most + 1)), {count[at] for count in counts})

    def assert_order(self, system):
        """Check each choice of `setup_order` on its own."""
        order = setup_order(system)
        left = [name for name in pending_names(system) if name not in tried_hopeless(system)]
        for at, (name, forced) in enumerate(order):
            before = [one for one, other in order[:at]]
            self.assertIn(name, left)
            free = [one for one in left if one not in forced_in(system, (*before, one))]
            mute = [one for one in left if "setup" not in system.store[(one, system[one][1])].scripts]
            self.assertEqual((name, forced), (min(free or mute or left), not free))
            left.remove(name)
        self.assertEqual(left, [])


if __name__ == "__main__":
    unittest.main()

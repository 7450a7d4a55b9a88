"""Point 14: which systems can be come to at all."""

import random
import unittest

from halfsetup.editions import Edition
from halfsetup.errors import TooMany
from halfsetup.reaching import reachable
from halfsetup.running import all_runs
from halfsetup.stores import Store
from halfsetup.systems import System
from tests.samples import SCRIPTS, deeds_of, one_package, random_system, states_key

# A package with this need can never be set up.
NEVER = (("x", 1),)


def closure(system):
    """All systems that can be come to, by trying all runs of all deeds."""
    found = {states_key(system): system}
    waiting = [system]
    for one in waiting:
        for deed in deeds_of(one):
            for fails, later, calls in all_runs(one, deed):
                if states_key(later) not in found:
                    found[states_key(later)] = later
                    waiting.append(later)
    return [found[key] for key in sorted(found)]


def reached_states(system):
    return [one["lib"] for one in reachable(system)]


class ReachableTest(unittest.TestCase):
    def test_the_interface_example(self):
        self.assertEqual([len(reachable(one_package(1, some))) for some in ((), ("setup",), SCRIPTS)], [6, 8, 10])

    def test_no_script(self):
        self.assertEqual(reached_states(one_package(1, ())),
                         [("absent", 0, 0), ("left", 1, 0), ("left", 1, 1), ("ready", 1, 1), ("unpacked", 1, 0),
                          ("unpacked", 1, 1)])

    def test_one_script(self):
        plain = reached_states(one_package(1, ()))
        more = {"clean": [("half", 1, 0), ("half", 1, 1)], "enter": [], "leave": [],
                "setup": [("failed", 1, 0), ("failed", 1, 1)]}
        for script in SCRIPTS:
            with self.subTest(script):
                self.assertEqual(reached_states(one_package(1, (script,))), sorted(plain + more[script]))

    def test_all_four_scripts(self):
        self.assertEqual(reached_states(one_package()),
                         [("absent", 0, 0), ("failed", 1, 0), ("failed", 1, 1), ("half", 1, 0), ("half", 1, 1),
                          ("left", 1, 0), ("left", 1, 1), ("ready", 1, 1), ("unpacked", 1, 0), ("unpacked", 1, 1)])

    def test_the_system_itself_is_among_them(self):
        # Without scripts nothing fails, so nothing comes back to these.
        for state in (("failed", 1, 0), ("half", 1, 1)):
            system = one_package(1, ()).with_state("lib", state)
            self.assertEqual(reached_states(system), sorted([state, *reached_states(one_package(1, ()))]))

    def test_where_no_deed_can_begin(self):
        store = Store((Edition("lib", 1, first=NEVER),))
        self.assertEqual(reachable(System(store, {})), [System(store, {})])

    def test_refusals_keep_systems_away(self):
        store = Store((Edition("db", 1, scripts=(), against=("lib",)), Edition("lib", 1, scripts=())))
        found = reachable(System(store, {}))
        self.assertEqual(len(found), 27)
        there = ("ready", "unpacked")
        self.assertFalse([one for one in found if one["db"][0] in there and one["lib"][0] in there])

    def test_systems_ascend_by_the_states_in_the_order_of_the_names(self):
        system = System(Store((Edition("lib", 1, scripts=()), Edition("db", 1, scripts=()))), {})
        found = reachable(system)
        self.assertEqual(found[0], system)
        self.assertEqual(found[1], system.with_state("lib", ("left", 1, 0)))
        self.assertEqual(len(found), 36)
        keys = [(one["db"], one["lib"]) for one in found]
        self.assertEqual(keys, sorted(set(keys)))

    def test_five_thousand_are_not_too_many(self):
        store = Store((Edition("a", 1), Edition("b", 1), Edition("c", 1), Edition("d", 1, needs=NEVER)))
        self.assertEqual(len(reachable(System(store, {"d": ("failed", 1, 0)}))), 5000)

    def test_five_thousand_and_one_are_too_many(self):
        # As long as d is half there in version 2, all others are kept away; it is never so again.
        store = Store((Edition("a", 1), Edition("b", 1), Edition("c", 1), Edition("d", 1, needs=NEVER),
                       Edition("d", 2, scripts=(), first=NEVER, against=("a", "b", "c"))))
        self.assertEqual(len(reachable(System(store, {"d": ("left", 2, 0)}))), 5000)
        with self.assertRaises(TooMany):
            reachable(System(store, {"d": ("half", 2, 0)}))
        smaller = Store(tuple(store[key] for key in (("a", 1), ("d", 1), ("d", 2))))
        self.assertEqual([len(reachable(System(smaller, {"d": (status, 2, 0)}))) for status in ("left", "half")],
                         [50, 51])

    def test_more_than_five_thousand_are_too_many(self):
        # The packages have 7, 8, 9 and 10 states for themselves.
        store = Store((Edition("a", 1, scripts=()), Edition("b", 1, scripts=("clean",)),
                       Edition("c", 1, scripts=("setup",)), Edition("d", 1)))
        sizes = [len(reachable(System(Store((store[(name, 1)],)), states))) for name, states in (
            ("a", {"a": ("half", 1, 0)}), ("b", {}), ("c", {"c": ("half", 1, 0)}), ("d", {}))]
        self.assertEqual(sizes, [7, 8, 9, 10])
        with self.assertRaises(TooMany):
            reachable(System(store, {"a": ("half", 1, 0), "c": ("half", 1, 0)}))
        with self.assertRaises(TooMany):
            reachable(System(Store(tuple(Edition(name, 1) for name in ("a", "b", "c", "d"))), {}))
        self.assertEqual(len(reachable(System(store, {}))), 6 * 8 * 8 * 10)

    def test_arguments_are_not_modified_and_lists_may_be(self):
        system = one_package()
        found = reachable(system)
        before = list(found)
        found.clear()
        self.assertEqual(reachable(system), before)
        self.assertEqual(system, one_package())

    def test_all_runs_of_all_deeds(self):
        chooser = random.Random(14)
        for _ in range(40):
            system = random_system(chooser)
            self.assertEqual(reachable(system), closure(system))


if __name__ == "__main__":
    unittest.main()

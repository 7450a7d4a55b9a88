"""Points 23 and 24: faulty scripts."""

import itertools
import random
import unittest

from halfsetup.deeds import refusal
from halfsetup.editions import Edition
from halfsetup.errors import InvalidNumber, UnknownScript, UnknownScripts, UnlikeStores
from halfsetup.faults import behind, explained, tells_apart, telling_deeds
from halfsetup.running import all_runs, run
from halfsetup.stores import Store
from halfsetup.systems import System
from tests.samples import deeds_of, one_package, random_deed, random_states, random_store, random_system, states_key

CLEAN, ENTER, LEAVE, SETUP = [("lib", 1, script) for script in ("clean", "enter", "leave", "setup")]
UNPACK, SET_UP, REMOVE, PURGE = ("unpack", "lib", 1), ("setup", "lib"), ("remove", "lib"), ("purge", "lib")


def scripts_of(store):
    return [(name, version, script) for name in store.names for version in store.versions(name)
            for script in store[(name, version)].scripts]


def told_behind(system, deeds, faulty):
    """What `behind` returns, by looking for the one run of each deed in which just the faulty scripts fail."""
    for deed in deeds:
        if refusal(system, deed) is None:
            [system] = [later for fails, later, calls in all_runs(system, deed)
                        if all(failed == (call[:3] in faulty) for call, failed in calls)]
    return system


def told_explained(system, deeds, later, most):
    """What `explained` returns, by trying all sets of scripts."""
    every = scripts_of(system.store)
    fitting = [some for length in range(most + 1) for some in itertools.combinations(every, length)
               if told_behind(system, deeds, some) == later]
    return [some for some in fitting if not any(set(other) < set(some) for other in fitting)]


def told_apart(system, deeds, sets):
    ends = [told_behind(system, deeds, faulty) for faulty in sets]
    return all(one != other for one, other in itertools.combinations(ends, 2))


def lists_of_deeds(system, length):
    """All lists of so many deeds that can begin if nothing is faulty, in list order."""
    if length == 0:
        return [[]]
    return [[deed, *more] for deed in deeds_of(system)
            for more in lists_of_deeds(run(system, deed, ())[0], length - 1)]


def told_telling(system, sets, most):
    for length in range(most + 1):
        for deeds in lists_of_deeds(system, length):
            if told_apart(system, deeds, sets):
                return deeds
    return None


def random_sets(chooser, store, many):
    every = scripts_of(store)
    return [tuple(sorted(chooser.sample(every, min(len(every), chooser.randint(0, 2))))) for _ in range(many)]


class BehindTest(unittest.TestCase):
    def test_the_interface_examples(self):
        system = System(Store((Edition("lib", 1),)), {})
        deeds, wrong = [("unpack", "lib", 1), ("setup", "lib")], ("lib", 1, "setup")
        later = behind(system, deeds, (wrong,))
        self.assertEqual(
            [later["lib"], explained(system, deeds, later, 2),
             telling_deeds(system, [(), (("lib", 1, "clean"),)], 2)],
            [("failed", 1, 0), [(("lib", 1, "setup"),)], [("unpack", "lib", 1), ("remove", "lib")]])
        with self.assertRaises(UnknownScript) as caught:
            behind(system, [], (("lib", 2, "setup"),))
        self.assertEqual(caught.exception.index, 0)

    def test_no_faulty_scripts(self):
        system = one_package()
        self.assertEqual(behind(system, [UNPACK, SET_UP], ())["lib"], ("ready", 1, 1))
        self.assertEqual(behind(system, [UNPACK, SET_UP, REMOVE, PURGE], ()), system)
        self.assertEqual(behind(system, [], ()), system)
        self.assertEqual(behind(system, [], (SETUP,)), system)

    def test_faulty_scripts_fail_whenever_they_are_called(self):
        system = one_package()
        self.assertEqual(behind(system, [UNPACK, SET_UP, SET_UP], (SETUP,))["lib"], ("failed", 1, 0))
        # The script that fails in the removal fails in the setup to go back, too.
        ready = system.with_state("lib", ("ready", 1, 1))
        self.assertEqual(behind(ready, [REMOVE], (LEAVE,))["lib"], ("ready", 1, 1))
        self.assertEqual(behind(ready, [REMOVE], (LEAVE, SETUP))["lib"], ("failed", 1, 1))
        self.assertEqual(behind(system, [UNPACK], (ENTER,)), system)
        self.assertEqual(behind(system, [UNPACK], (CLEAN, ENTER))["lib"], ("half", 1, 0))
        self.assertEqual(behind(system, [UNPACK, REMOVE, REMOVE], (CLEAN,))["lib"], ("half", 1, 0))

    def test_scripts_of_other_versions_and_packages_do_not_fail(self):
        store = Store((Edition("a", 1), Edition("a", 2), Edition("b", 1)))
        system = System(store, {"a": ("ready", 1, 1)})
        deeds = [("unpack", "a", 2), ("setup", "a")]
        self.assertEqual(behind(system, deeds, (("a", 1, "setup"), ("b", 1, "setup")))["a"], ("ready", 2, 2))
        self.assertEqual(behind(system, deeds, (("a", 2, "setup"),))["a"], ("failed", 2, 1))
        # The new version's script is called where the old one's fails.
        self.assertEqual(behind(system, deeds, (("a", 1, "leave"),))["a"], ("ready", 2, 2))
        self.assertEqual(behind(system, deeds, (("a", 1, "leave"), ("a", 2, "leave")))["a"], ("ready", 1, 1))

    def test_deeds_that_cannot_begin_are_left_out(self):
        system = one_package()
        deeds = [SET_UP, PURGE, UNPACK, UNPACK, ("unpack", "lib", 9), ("setup", "web"), SET_UP, SET_UP]
        self.assertEqual(behind(system, deeds, ())["lib"], ("ready", 1, 1))
        self.assertEqual(behind(system, deeds, (ENTER,)), system)
        self.assertEqual(behind(system, deeds, (SETUP,))["lib"], ("failed", 1, 0))

    def test_unknown_scripts(self):
        store = Store((Edition("a", 1, scripts=("setup",)), Edition("b", 2)))
        good, other = ("a", 1, "setup"), ("b", 2, "leave")
        for wrong in (("a", 1, "clean"), ("a", 2, "setup"), ("b", 1, "setup"), ("c", 1, "setup"), ("b", 2, "install")):
            for faulty, index in (((wrong,), 0), ((good, wrong), 1), ((good, other, wrong, wrong), 2)):
                with self.subTest(faulty), self.assertRaises(UnknownScript) as caught:
                    behind(System(store, {}), [("unpack", "a", 1)], faulty)
                self.assertEqual(caught.exception.index, index)
        self.assertEqual(behind(System(store, {}), [], (good, other)), System(store, {}))

    def test_arguments_are_not_modified(self):
        system, deeds = one_package(), [UNPACK, SET_UP]
        behind(system, deeds, (SETUP,))
        self.assertEqual((system, deeds), (one_package(), [UNPACK, SET_UP]))

    def test_trying_all_runs(self):
        chooser = random.Random(23)
        for _ in range(300):
            system = random_system(chooser)
            deeds = [random_deed(chooser) for _ in range(chooser.randint(0, 5))]
            [faulty] = random_sets(chooser, system.store, 1)
            with self.subTest((system.states, deeds, faulty)):
                self.assertEqual(behind(system, deeds, faulty), told_behind(system, deeds, faulty))


class ExplainedTest(unittest.TestCase):
    def test_what_comes_out_without_faulty_scripts(self):
        system = one_package()
        later = behind(system, [UNPACK, SET_UP], ())
        for most in range(4):
            # No other set is told, since the empty one is a part of it.
            self.assertEqual(explained(system, [UNPACK, SET_UP], later, most), [()])
            self.assertEqual(explained(system, [], system, most), [()])

    def test_what_cannot_come_out(self):
        system = one_package()
        self.assertEqual(explained(system, [UNPACK], system.with_state("lib", ("ready", 1, 1)), 3), [])
        self.assertEqual(explained(system, [], system.with_state("lib", ("left", 1, 1)), 3), [])

    def test_at_most_so_many(self):
        system = one_package()
        half = system.with_state("lib", ("half", 1, 0))
        self.assertEqual([explained(system, [UNPACK], half, most) for most in range(4)],
                         [[], [], [(CLEAN, ENTER)], [(CLEAN, ENTER)]])
        # Nothing fails, or the one script does.
        failed = system.with_state("lib", ("failed", 1, 0))
        self.assertEqual([explained(system, [UNPACK, SET_UP], failed, most) for most in range(4)],
                         [[], [(SETUP,)], [(SETUP,)], [(SETUP,)]])

    def test_three_scripts(self):
        store = Store(tuple(Edition(name, 1) for name in "abc"))
        system = System(store, {name: ("unpacked", 1, 0) for name in "abc"})
        later = System(store, {name: ("failed", 1, 0) for name in "abc"})
        deeds = [("setup", name) for name in "cab"]
        self.assertEqual(explained(system, deeds, later, 2), [])
        self.assertEqual(explained(system, deeds, later, 3), [tuple((name, 1, "setup") for name in "abc")])

    def test_shorter_sets_come_first_then_in_tuple_order(self):
        store = Store((Edition("a", 1), Edition("a", 2)))
        system = System(store, {"a": ("unpacked", 1, 0)})
        # The old one is put back if the new one cannot enter, or if both cannot clean.
        self.assertEqual(explained(system, [("unpack", "a", 2)], system, 3), [(("a", 2, "enter"),)])
        later = System(store, {"a": ("half", 1, 0)})
        self.assertEqual(explained(system, [("unpack", "a", 2)], later, 3),
                         [(("a", 1, "clean"), ("a", 2, "clean")), (("a", 2, "clean"), ("a", 2, "enter"))])
        deeds = [("unpack", "a", 2), ("remove", "a"), ("purge", "a")]
        later = System(store, {"a": ("left", 1, 0)})
        self.assertEqual(explained(system, deeds, later, 3), [])
        system = System(store, {"a": ("ready", 1, 1)})
        self.assertEqual(explained(system, [("unpack", "a", 2), ("setup", "a")], system, 2),
                         [(("a", 2, "enter"),), (("a", 1, "leave"), ("a", 2, "leave"))])

    def test_a_set_of_which_a_part_explains_it_already(self):
        system = one_package()
        # The setup changes nothing behind an enter that fails, so it does not stand beside it.
        self.assertEqual(explained(system, [UNPACK, SET_UP], system, 3), [(ENTER,)])

    def test_deeds_that_cannot_begin_are_left_out(self):
        system = one_package()
        failed = system.with_state("lib", ("failed", 1, 0))
        self.assertEqual(explained(system, [PURGE, UNPACK, UNPACK, SET_UP, ("setup", "web")], failed, 1), [(SETUP,)])

    def test_wrong_numbers_and_stores(self):
        system = one_package()
        for most in (-1, 4, 100, True, False, None):
            with self.subTest(most), self.assertRaises(InvalidNumber):
                explained(system, [], system, most)
        for most in (2, 4, True):
            for other in (one_package(2), one_package(1, ())):
                # The store is looked at first.
                with self.assertRaises(UnlikeStores):
                    explained(system, [], other, most)

    def test_arguments_are_not_modified_and_lists_may_be(self):
        system, deeds = one_package(), [UNPACK]
        half = system.with_state("lib", ("half", 1, 0))
        explained(system, deeds, half, 2).clear()
        self.assertEqual(explained(system, deeds, half, 2), [(CLEAN, ENTER)])
        self.assertEqual((system, deeds, half["lib"]), (one_package(), [UNPACK], ("half", 1, 0)))

    def test_trying_all_sets(self):
        chooser = random.Random(24)
        lengths = set()
        for _ in range(80):
            system = random_system(chooser)
            deeds = [random_deed(chooser) for _ in range(chooser.randint(1, 4))]
            most = chooser.randint(0, 3)
            [faulty] = random_sets(chooser, system.store, 1)
            later = random_states(chooser, system.store) if chooser.random() < 0.1 else behind(system, deeds, faulty)
            found = explained(system, deeds, later, most)
            lengths |= {len(some) for some in found} | ({-1} if not found else set())
            with self.subTest((system.states, deeds, later.states, most)):
                self.assertEqual(found, told_explained(system, deeds, later, most))
        self.assertLessEqual({-1, 0, 1, 2}, lengths)

    def test_trying_all_sets_with_all_scripts(self):
        store = Store((Edition("a", 1), Edition("a", 2)))
        deeds = [("unpack", "a", 2), ("setup", "a"), ("remove", "a")]
        for status in ("ready", "unpacked"):
            system = System(store, {"a": (status, 1, 1)})
            ends = {states_key(one): one for one in (
                behind(system, deeds, some) for length in range(5)
                for some in itertools.combinations(scripts_of(store), length))}
            for later in ends.values():
                for most in range(4):
                    self.assertEqual(explained(system, deeds, later, most),
                                     told_explained(system, deeds, later, most))


class TellsApartTest(unittest.TestCase):
    def test_fewer_than_two_sets(self):
        system = one_package()
        for deeds in ([], [UNPACK]):
            self.assertIs(tells_apart(system, deeds, []), True)
            self.assertIs(tells_apart(system, deeds, [(SETUP,)]), True)

    def test_equal_sets(self):
        for sets in ([(), ()], [(SETUP,), (SETUP,)], [(SETUP,), (), (SETUP,)]):
            self.assertIs(tells_apart(one_package(), [UNPACK, SET_UP], sets), False)

    def test_all_must_be_different(self):
        system = one_package()
        self.assertIs(tells_apart(system, [UNPACK, SET_UP], [(), (SETUP,)]), True)
        self.assertIs(tells_apart(system, [UNPACK, SET_UP], [(), (SETUP,), (ENTER,)]), True)
        # A script that is not called tells nothing.
        self.assertIs(tells_apart(system, [UNPACK, SET_UP], [(), (SETUP,), (CLEAN,)]), False)
        self.assertIs(tells_apart(system, [UNPACK], [(), (SETUP,)]), False)
        self.assertIs(tells_apart(system, [], [(), (SETUP,)]), False)

    def test_trying_all_runs(self):
        chooser = random.Random(25)
        answers = []
        for _ in range(200):
            system = random_system(chooser)
            deeds = [random_deed(chooser) for _ in range(chooser.randint(0, 4))]
            sets = random_sets(chooser, system.store, chooser.randint(0, 3))
            answers.append(tells_apart(system, deeds, sets))
            self.assertEqual(answers[-1], told_apart(system, deeds, sets))
        self.assertEqual(set(answers), {False, True})


class TellingDeedsTest(unittest.TestCase):
    def test_the_empty_list(self):
        for sets in ([], [()], [(SETUP,)]):
            for most in range(4):
                self.assertEqual(telling_deeds(one_package(), sets, most), [])

    def test_equal_sets_are_never_told_apart(self):
        for most in range(4):
            self.assertIsNone(telling_deeds(one_package(), [(SETUP,), (SETUP,)], most))

    def test_at_most_so_many(self):
        self.assertEqual([telling_deeds(one_package(), [(), (ENTER,)], most) for most in range(3)],
                         [None, [UNPACK], [UNPACK]])
        self.assertEqual([telling_deeds(one_package(), [(), (SETUP,)], most) for most in range(4)],
                         [None, None, [UNPACK, SET_UP], [UNPACK, SET_UP]])
        self.assertEqual([telling_deeds(one_package(), [(), (LEAVE,)], most) for most in range(4)],
                         [None, None, None, [UNPACK, SET_UP, REMOVE]])

    def test_of_several_the_least_in_list_order(self):
        store = Store((Edition("a", 1), Edition("b", 1)))
        system = System(store, {name: ("unpacked", 1, 0) for name in "ab"})
        self.assertEqual(telling_deeds(system, [(), (("a", 1, "clean"), ("b", 1, "setup"))], 3), [("remove", "a")])
        self.assertEqual(telling_deeds(system, [(), (("b", 1, "setup"),), (("b", 1, "clean"),)], 3),
                         [("setup", "b"), ("remove", "b")])

    def test_all_deeds_can_begin_if_nothing_is_faulty(self):
        store = Store((Edition("a", 1), Edition("a", 2), Edition("web", 1, needs=(("a", 1),))))
        system = System(store, {"a": ("unpacked", 1, 0), "web": ("ready", 1, 1)})
        clean = (("a", 1, "clean"), ("a", 2, "clean"))
        sets = [clean, (*clean, ("a", 2, "enter"))]
        # With these sets the package is half there behind the first deed, so the second one can begin.
        self.assertIs(tells_apart(system, [("unpack", "a", 2), ("unpack", "a", 2)], sets), True)
        self.assertIsNone(telling_deeds(system, sets, 2))
        self.assertEqual(telling_deeds(system, sets, 3), [("remove", "web"), ("remove", "a"), ("unpack", "a", 2)])

    def test_deeds_that_cannot_begin_with_a_set_are_left_out(self):
        store = Store((Edition("a", 1), Edition("b", 1, needs=(("a", 1),), scripts=())))
        system = System(store, {"a": ("failed", 1, 0), "b": ("unpacked", 1, 0)})
        sets = [(("a", 1, "setup"),), (("a", 1, "clean"),)]
        self.assertEqual(telling_deeds(system, sets, 3), [("remove", "a")])
        self.assertIs(tells_apart(system, [("setup", "a"), ("setup", "b")], sets), True)

    def test_unknown_scripts(self):
        system = one_package()
        wrong, also_wrong = ("lib", 2, "setup"), ("web", 1, "setup")
        for sets, index in (([(wrong,)], 0), ([(), (SETUP,), (SETUP, wrong)], 2), ([(SETUP,), (wrong,), (also_wrong,)], 1),
                            ([(), (SETUP, wrong, also_wrong), (also_wrong,)], 1)):
            # They come before a wrong number.
            for most in (2, 4, -1, True):
                with self.subTest((sets, most)), self.assertRaises(UnknownScripts) as caught:
                    telling_deeds(system, sets, most)
                self.assertEqual(caught.exception.index, index)
            with self.assertRaises(UnknownScripts) as caught:
                tells_apart(system, [UNPACK], sets)
            self.assertEqual(caught.exception.index, index)
        with self.assertRaises(UnknownScripts):
            tells_apart(one_package(1, ("enter",)), [], [(SETUP,)])

    def test_wrong_numbers(self):
        for most in (-1, 4, True, False, None):
            for sets in ([], [(), (SETUP,)]):
                with self.subTest((most, sets)), self.assertRaises(InvalidNumber):
                    telling_deeds(one_package(), sets, most)

    def test_arguments_are_not_modified_and_lists_may_be(self):
        system, sets = one_package(), [(), (SETUP,)]
        telling_deeds(system, sets, 2).clear()
        self.assertEqual(telling_deeds(system, sets, 2), [UNPACK, SET_UP])
        self.assertEqual((system, sets), (one_package(), [(), (SETUP,)]))

    def test_trying_all_lists_of_deeds(self):
        chooser = random.Random(26)
        lengths = set()
        for _ in range(250):
            store = random_store(chooser)
            system = random_states(chooser, store)
            sets = random_sets(chooser, store, chooser.choice((0, 1, 2, 2, 2, 2, 3, 3)))
            most = chooser.choice((0, 1, 2, 2, 3, 3))
            found = telling_deeds(system, sets, most)
            lengths.add(None if found is None else len(found))
            with self.subTest((system.states, sets, most)):
                self.assertEqual(found, told_telling(system, sets, most))
        self.assertLessEqual({None, 0, 1, 2, 3}, lengths)


if __name__ == "__main__":
    unittest.main()

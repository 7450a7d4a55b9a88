"""Point 16: how many deeds come to a goal for certain."""

import random
import unittest

from halfsetup.editions import Edition
from halfsetup.errors import InvalidNumber, TooMany, UnlikeStores
from halfsetup.running import all_runs
from halfsetup.stores import Store
from halfsetup.sureness import best_deed, surely
from halfsetup.systems import System
from halfsetup.ways import way
from tests.samples import SCRIPTS, deeds_of, one_package, random_states, random_store, states_key

READY = ("ready", 1, 1)
MANY = Store(tuple(Edition(name, 1) for name in ("a", "b", "c", "d")))


def all_tries(system):
    """Dicts of what can come of all deeds, by the keys of all systems that can be come to.

    Each goes from a deed to the list of tuples (key, number of failures) of all its runs.
    """
    tries = {}
    waiting = [system]
    while waiting:
        one = waiting.pop()
        if states_key(one) not in tries:
            runs = {deed: all_runs(one, deed) for deed in deeds_of(one)}
            tries[states_key(one)] = {
                deed: [(states_key(later), len(fails)) for fails, later, calls in runs[deed]] for deed in runs}
            waiting += [later for deed in runs for fails, later, calls in runs[deed]]
    return tries


def is_enough(sure, runs, failures):
    """Whether all that can come of a deed is sure, so many failures being left."""
    return all((key, failures - taken) in sure for key, taken in runs if taken <= failures)


def tried(system, goal, most):
    """For each number of failures a tuple (number of deeds, deed), by asking what one more deed makes sure."""
    tries = all_tries(system)
    start = states_key(system)
    sure = {(states_key(goal), failures): (0, None) for failures in range(most + 1)}
    number, more = 0, True
    while more:
        number += 1
        more = {}
        for key in tries:
            for failures in range(most + 1):
                fitting = [deed for deed in sorted(tries[key]) if is_enough(sure, tries[key][deed], failures)]
                if fitting and (key, failures) not in sure:
                    more[(key, failures)] = (number, fitting[0])
        sure.update(more)
    return [sure.get((start, failures), (None, None)) for failures in range(most + 1)]


class SurenessTest(unittest.TestCase):
    def assert_answers(self, system, goal, numbers, deeds):
        self.assertEqual([surely(system, goal, failures) for failures in range(4)], numbers)
        self.assertEqual([best_deed(system, goal, failures) for failures in range(4)], deeds)

    def test_the_interface_example(self):
        system = System(Store((Edition("lib", 1),)), {})
        goal = system.with_state("lib", ("ready", 1, 1))
        self.assertEqual(
            [[surely(system, goal, failures) for failures in range(3)], best_deed(system, goal, 1),
             best_deed(goal, goal, 1)],
            [[2, 3, 4], ("unpack", "lib", 1), None])

    def test_no_to_three_failures(self):
        system = one_package()
        self.assert_answers(system, system.with_state("lib", READY), [2, 3, 4, 5], [("unpack", "lib", 1)] * 4)

    def test_scripts_that_are_lacking_do_not_fail(self):
        system = one_package(1, ())
        self.assert_answers(system, system.with_state("lib", READY), [2, 2, 2, 2], [("unpack", "lib", 1)] * 4)
        # Without the script enter nothing keeps the package from being unpacked.
        system = one_package(1, ("clean", "leave"))
        self.assert_answers(system, system.with_state("lib", READY), [2, 2, 2, 2], [("unpack", "lib", 1)] * 4)

    def test_failures_that_are_made_good_within_a_deed(self):
        # The new version's script helps out, so two failures are needed to lose an unpack.
        store = Store((Edition("db", 1, scripts=("leave",)), Edition("db", 2, scripts=("leave",))))
        system = System(store, {"db": READY})
        goal = system.with_state("db", ("unpacked", 2, 1))
        unpack = ("unpack", "db", 2)
        # If two can fail a remove is as good: it fails once, and then an unpack is sure, or it does not fail.
        self.assert_answers(system, goal, [1, 1, 2, 2], [unpack, unpack, ("remove", "db"), unpack])

    def test_deeds_that_cannot_fail(self):
        store = Store((Edition("db", 1, scripts=()), Edition("db", 3, scripts=("enter",))))
        system = System(store, {"db": ("left", 1, 0)})
        self.assert_answers(system, System(store, {}), [1, 1, 1, 1], [("purge", "db")] * 4)
        system = System(store, {"db": ("left", 3, 0)})
        self.assert_answers(system, system.with_state("db", ("left", 1, 0)), [2, 2, 2, 2], [("unpack", "db", 1)] * 4)

    def test_a_goal_that_is_the_system_itself(self):
        for state in (("absent", 0, 0), ("half", 1, 0), READY):
            system = one_package().with_state("lib", state)
            self.assert_answers(system, system, [0, 0, 0, 0], [None] * 4)

    def test_a_goal_that_cannot_be_made_sure(self):
        # The first two can be come to by failures, but these need not come; the last one cannot be come to at all.
        for scripts, state in ((SCRIPTS, ("failed", 1, 0)), (SCRIPTS, ("half", 1, 0)), ((), ("failed", 1, 0))):
            system = one_package(1, scripts)
            self.assert_answers(system, system.with_state("lib", state), [None] * 4, [None] * 4)

    def test_of_several_best_deeds_the_first(self):
        store = Store((Edition("a", 1), Edition("b", 1)))
        system = System(store, {"a": ("left", 1, 0), "b": READY})
        goal = System(store, {"a": ("unpacked", 1, 0), "b": ("left", 1, 1)})
        self.assert_answers(system, goal, [2, 3, 4, 5], [("remove", "b")] * 4)
        goal = System(store, {"b": ("left", 1, 1)})
        self.assert_answers(system, goal, [2, 3, 4, 5], [("purge", "a")] * 4)

    def test_numbers_out_of_range(self):
        system = one_package()
        for goal in (system, system.with_state("lib", READY), system.with_state("lib", ("failed", 1, 0))):
            for failures in (-1, 4, 5, -99, 100):
                for asked in (surely, best_deed):
                    with self.assertRaises(InvalidNumber):
                        asked(system, goal, failures)

    def test_unlike_stores_come_first(self):
        other = one_package()
        many = System(MANY, {})
        for asked in (surely, best_deed):
            for system, goal, failures in ((many, other, 4), (many, other, -1), (many, other, 1), (other, many, 4),
                                           (other, many, 1), (other, one_package(2), 0)):
                with self.assertRaises(UnlikeStores):
                    asked(system, goal, failures)

    def test_then_invalid_numbers_then_too_many(self):
        many = System(MANY, {})
        for asked in (surely, best_deed):
            for goal in (many, many.with_state("a", ("unpacked", 1, 0))):
                for failures in (-1, 4):
                    with self.assertRaises(InvalidNumber):
                        asked(many, goal, failures)
                # Also if no deed is needed, or no failure can come.
                for failures in range(4):
                    with self.assertRaises(TooMany):
                        asked(many, goal, failures)

    def test_five_thousand_systems_are_not_too_many(self):
        store = Store((*(Edition(name, 1) for name in ("a", "b", "c")), Edition("d", 1, needs=(("x", 1),))))
        system = System(store, {"d": ("failed", 1, 0)})
        goal = system.with_state("d", ("absent", 0, 0)).with_state("a", READY)
        self.assertEqual([surely(system, goal, failures) for failures in (0, 3)], [4, 7])
        self.assertEqual(best_deed(system, goal, 3), ("remove", "d"))

    def test_arguments_are_not_modified(self):
        system, goal = one_package(), one_package().with_state("lib", READY)
        for _ in range(2):
            self.assertEqual(surely(system, goal, 2), 4)
            self.assertEqual(best_deed(system, goal, 2), ("unpack", "lib", 1))
        self.assertEqual([system, goal["lib"]], [one_package(), READY])

    def test_trying_all_deeds(self):
        chooser = random.Random(18)
        several = 0
        for _ in range(60):
            store = random_store(chooser)
            system, goal = random_states(chooser, store), random_states(chooser, store)
            if len(store) > 3:
                continue
            expected = tried(system, goal, 3)
            several += len(set(expected)) > 2
            with self.subTest((system.states, goal.states)):
                self.assert_answers(system, goal, [number for number, deed in expected],
                                    [deed for number, deed in expected])
                found = way(system, goal)
                self.assertEqual(surely(system, goal, 0), found if found is None else len(found))
        self.assertGreater(several, 5)


if __name__ == "__main__":
    unittest.main()

"""Point 15: the shortest ways to a system, and out of a broken one."""

import random
import unittest

from halfsetup.editions import Edition
from halfsetup.errors import UnlikeStores
from halfsetup.running import run
from halfsetup.stores import Store
from halfsetup.systems import System, is_sound
from halfsetup.ways import mend, way
from tests.samples import deeds_of, one_package, random_states, random_store, random_system, states_key


def all_ways(system, most):
    """Tuples (list of deeds, system) of all lists of at most so many deeds, the shorter ones first, then in order."""
    found = level = [([], system)]
    for _ in range(most):
        level = [([*deeds, deed], run(end, deed, ())[0]) for deeds, end in level for deed in deeds_of(end)]
        found = found + level
    assert found == sorted(found, key=lambda one: (len(one[0]), one[0]))
    return found


def plain_closure(system):
    """All systems that can be come to if no call fails, by their keys."""
    found = {states_key(system): system}
    waiting = [system]
    for one in waiting:
        for deed in deeds_of(one):
            later = run(one, deed, ())[0]
            if states_key(later) not in found:
                found[states_key(later)] = later
                waiting.append(later)
    return found


def follow(system, deeds):
    for deed in deeds:
        system = run(system, deed, ())[0]
    return system


class WayTest(unittest.TestCase):
    def test_the_interface_example(self):
        system = System(Store((Edition("lib", 1),)), {"lib": ("half", 1, 0)})
        deeds, later = mend(system)
        self.assertEqual(
            [deeds, later["lib"], way(system, system.with_state("lib", ("ready", 1, 1))),
             way(system, system.with_state("lib", ("failed", 1, 0)))],
            [[("remove", "lib")], ("left", 1, 0), [("unpack", "lib", 1), ("setup", "lib")], None])

    def test_a_goal_that_is_the_system_itself(self):
        for state in (("absent", 0, 0), ("failed", 1, 0), ("half", 1, 1), ("ready", 1, 1)):
            system = one_package().with_state("lib", state)
            self.assertEqual(way(system, system), [])

    def test_a_goal_that_cannot_be_come_to(self):
        system = one_package()
        # Failures lead to these, but none are made.
        for state in (("failed", 1, 0), ("half", 1, 0), ("failed", 1, 1)):
            self.assertIsNone(way(system, system.with_state("lib", state)))
        store = Store((Edition("db", 1, needs=(("lib", 1),)), Edition("lib", 1, against=("db",))))
        self.assertIsNone(way(System(store, {}), System(store, {"db": ("ready", 1, 1)})))

    def test_needs_put_deeds_into_an_order(self):
        store = Store((Edition("a", 1, needs=(("b", 2),)), Edition("b", 1), Edition("b", 2, first=(("c", 1),)),
                       Edition("c", 1)))
        goal = System(store, {"a": ("ready", 1, 1), "b": ("ready", 2, 2), "c": ("ready", 1, 1)})
        self.assertEqual(way(System(store, {}), goal),
                         [("unpack", "a", 1), ("unpack", "c", 1), ("setup", "c"), ("unpack", "b", 2), ("setup", "b"),
                          ("setup", "a")])
        self.assertEqual(way(goal, System(store, {})),
                         [("remove", "a"), ("purge", "a"), ("remove", "b"), ("purge", "b"), ("remove", "c"),
                          ("purge", "c")])

    def test_of_several_shortest_ways_the_least_in_list_order(self):
        store = Store((Edition("a", 1), Edition("b", 1)))
        system = System(store, {"a": ("left", 1, 0), "b": ("ready", 1, 1)})
        goal = System(store, {"a": ("unpacked", 1, 0), "b": ("left", 1, 1)})
        self.assertEqual(way(system, goal), [("remove", "b"), ("unpack", "a", 1)])
        goal = System(store, {"b": ("left", 1, 1)})
        self.assertEqual(way(system, goal), [("purge", "a"), ("remove", "b")])
        self.assertEqual(way(System(store, {}), System(store, {"a": ("ready", 1, 1), "b": ("ready", 1, 1)})),
                         [("unpack", "a", 1), ("setup", "a"), ("unpack", "b", 1), ("setup", "b")])

    def test_deeds_on_versions_that_are_set_up_last(self):
        store = Store((Edition("a", 1), Edition("a", 2), Edition("a", 10)))
        self.assertEqual(way(System(store, {}), System(store, {"a": ("unpacked", 10, 2)})),
                         [("unpack", "a", 2), ("setup", "a"), ("unpack", "a", 10)])
        self.assertEqual(way(System(store, {"a": ("left", 1, 1)}), System(store, {"a": ("left", 10, 0)})),
                         [("purge", "a"), ("unpack", "a", 10), ("remove", "a")])

    def test_unlike_stores(self):
        system = one_package()
        for other in (one_package(2), one_package(1, ()), System(Store((Edition("lib", 1), Edition("db", 1))), {})):
            with self.assertRaises(UnlikeStores):
                way(system, other)
        one = System(Store((Edition("a", 1), Edition("b", 1))), {})
        self.assertEqual(way(one, System(Store((Edition("b", 1), Edition("a", 1))), {})), [])

    def test_arguments_are_not_modified_and_lists_may_be(self):
        system, goal = one_package(), one_package().with_state("lib", ("ready", 1, 1))
        way(system, goal).clear()
        self.assertEqual(way(system, goal), [("unpack", "lib", 1), ("setup", "lib")])
        self.assertEqual([system["lib"], goal["lib"]], [("absent", 0, 0), ("ready", 1, 1)])

    def test_trying_all_deeds(self):
        chooser = random.Random(15)
        lengths = set()
        for _ in range(120):
            store = random_store(chooser)
            system, goal = random_states(chooser, store), random_states(chooser, store)
            found = way(system, goal)
            least = [deeds for deeds, end in all_ways(system, 4) if end == goal]
            lengths.add(found if found is None else len(found))
            with self.subTest((system.states, goal.states)):
                if least:
                    self.assertEqual(found, least[0])
                elif found is None:
                    self.assertNotIn(states_key(goal), plain_closure(system))
                else:
                    self.assertGreater(len(found), 4)
                    self.assertEqual(follow(system, found), goal)
        self.assertLessEqual({None, 1, 2, 3, 4}, lengths)


class MendTest(unittest.TestCase):
    def test_a_system_that_is_sound_already(self):
        for state in (("absent", 0, 0), ("left", 1, 0), ("ready", 1, 1)):
            system = one_package().with_state("lib", state)
            self.assertEqual(mend(system), ([], system))

    def test_kinds_of_values(self):
        found = mend(one_package().with_state("lib", ("unpacked", 1, 0)))
        self.assertEqual([type(found), type(found[0]), type(found[1])], [tuple, list, System])

    def test_a_removal_comes_before_a_setup(self):
        for status in ("failed", "unpacked"):
            system = one_package().with_state("lib", (status, 1, 0))
            self.assertEqual(mend(system), ([("remove", "lib")], system.with_state("lib", ("left", 1, 0))))

    def test_what_is_needed_is_set_up_instead(self):
        store = Store((Edition("db", 1, needs=(("lib", 1),)), Edition("lib", 1)))
        system = System(store, {"db": ("ready", 1, 1), "lib": ("unpacked", 1, 0)})
        self.assertEqual(mend(system), ([("setup", "lib")], system.with_state("lib", ("ready", 1, 1))))

    def test_a_package_that_is_ready_and_lacks_what_it_needs(self):
        store = Store((Edition("db", 1, needs=(("lib", 1),)), Edition("lib", 1)))
        system = System(store, {"db": ("ready", 1, 1)})
        self.assertEqual(mend(system), ([("remove", "db")], system.with_state("db", ("left", 1, 1))))

    def test_two_packages_against_each_other(self):
        store = Store((Edition("a", 1, against=("b",)), Edition("b", 1)))
        system = System(store, {"a": ("ready", 1, 1), "b": ("ready", 1, 1)})
        self.assertEqual(mend(system), ([("remove", "a")], system.with_state("a", ("left", 1, 1))))

    def test_several_broken_packages(self):
        store = Store((Edition("a", 1), Edition("b", 1), Edition("c", 1, needs=(("b", 1),))))
        system = System(store, {"a": ("half", 1, 0), "b": ("failed", 1, 1), "c": ("ready", 1, 1)})
        self.assertEqual(mend(system), ([("remove", "a"), ("setup", "b")], System(
            store, {"a": ("left", 1, 0), "b": ("ready", 1, 1), "c": ("ready", 1, 1)})))

    def test_one_that_cannot_be_mended(self):
        # Each of the two is needed by the other one, so none can be removed, and what one needs cannot be there.
        store = Store((Edition("a", 1, needs=(("b", 1), ("x", 1))), Edition("b", 1, needs=(("a", 1),))))
        self.assertIsNone(mend(System(store, {"a": ("ready", 1, 1), "b": ("ready", 1, 1)})))

    def test_no_failures_are_counted_on(self):
        # The package c cannot be removed, nor be unpacked again.
        store = Store((Edition("a", 1, needs=(("b", 1), ("c", 1))), Edition("b", 1, needs=(("a", 1),)),
                       Edition("c", 1, first=(("x", 1),))))
        self.assertIsNone(mend(System(store, {
            "a": ("ready", 1, 1), "b": ("ready", 1, 1), "c": ("half", 1, 0)})))

    def test_arguments_are_not_modified_and_lists_may_be(self):
        system = one_package().with_state("lib", ("half", 1, 0))
        mend(system)[0].clear()
        self.assertEqual(mend(system)[0], [("remove", "lib")])
        self.assertEqual(system["lib"], ("half", 1, 0))

    def test_trying_all_deeds(self):
        chooser = random.Random(16)
        lengths = set()
        for _ in range(200):
            system = random_system(chooser)
            found = mend(system)
            least = [(deeds, end) for deeds, end in all_ways(system, 3) if is_sound(end)]
            lengths.add(found if found is None else len(found[0]))
            with self.subTest(system.states):
                if least:
                    self.assertEqual(found, least[0])
                elif found is None:
                    self.assertFalse([end for end in plain_closure(system).values() if is_sound(end)])
                else:
                    self.assertGreater(len(found[0]), 3)
                    self.assertEqual(follow(system, found[0]), found[1])
                    self.assertTrue(is_sound(found[1]))
        self.assertLessEqual({0, 1, 2}, lengths)


if __name__ == "__main__":
    unittest.main()

"""Point 12: what can come of deeds, whatever fails."""

import random
import unittest

from halfsetup.courses import course_count, ends, fewest_failures
from halfsetup.editions import Edition
from halfsetup.errors import UnlikeStores
from halfsetup.stores import Store
from halfsetup.systems import System
from tests.samples import courses, one_package, random_deed, random_system


class CoursesTest(unittest.TestCase):
    def test_the_interface_example(self):
        system = one_package()
        deeds = [("unpack", "lib", 1), ("setup", "lib")]
        self.assertEqual(
            [[one["lib"] for one in ends(system, deeds)], course_count(system, deeds),
             fewest_failures(system, deeds, system.with_state("lib", ("half", 1, 0)))],
            [[("absent", 0, 0), ("failed", 1, 0), ("half", 1, 0), ("ready", 1, 1)], 4, 2])

    def test_no_deeds(self):
        system = one_package()
        self.assertEqual(ends(system, []), [system])
        self.assertEqual(course_count(system, []), 1)
        self.assertEqual(fewest_failures(system, [], system), 0)
        self.assertIsNone(fewest_failures(system, [], system.with_state("lib", ("left", 1, 0))))

    def test_deeds_that_cannot_begin_are_left_out(self):
        system = one_package()
        refused = [("setup", "lib"), ("unpack", "lib", 2), ("remove", "web"), ("purge", "lib")]
        self.assertEqual(ends(system, refused), [system])
        self.assertEqual(course_count(system, refused), 1)
        self.assertEqual(fewest_failures(system, refused, system), 0)
        deeds = [*refused, ("unpack", "lib", 1), ("unpack", "lib", 2), ("setup", "lib"), ("purge", "lib")]
        self.assertEqual(ends(system, deeds), ends(system, [("unpack", "lib", 1), ("setup", "lib")]))
        self.assertEqual(course_count(system, deeds), 4)

    def test_a_deed_that_cannot_begin_may_begin_later(self):
        system = one_package()
        deeds = [("unpack", "lib", 1), ("unpack", "lib", 1)]
        self.assertEqual([one["lib"] for one in ends(system, deeds)],
                         [("absent", 0, 0), ("half", 1, 0), ("unpacked", 1, 0)])
        self.assertEqual(course_count(system, deeds), 7)
        self.assertEqual(fewest_failures(system, deeds, system), 2)
        self.assertEqual(fewest_failures(system, deeds, system.with_state("lib", ("half", 1, 0))), 3)

    def test_courses_without_calls(self):
        system = System(Store((Edition("lib", 1, scripts=()),)), {})
        deeds = [("unpack", "lib", 1), ("setup", "lib"), ("remove", "lib"), ("purge", "lib")]
        self.assertEqual(ends(system, deeds), [system])
        self.assertEqual(course_count(system, deeds), 1)

    def test_courses_to_one_end_are_counted_each(self):
        system = System(Store((Edition("db", 1), Edition("db", 2))), {"db": ("ready", 1, 1)})
        self.assertEqual(course_count(system, [("unpack", "db", 2)]), 20)
        self.assertEqual([one["db"] for one in ends(system, [("unpack", "db", 2)])],
                         [("failed", 1, 1), ("half", 1, 1), ("ready", 1, 1), ("unpacked", 1, 1), ("unpacked", 2, 1)])

    def test_the_fewest_failures(self):
        system = System(Store((Edition("db", 1), Edition("db", 2))), {"db": ("ready", 1, 1)})
        for state, fewest in ((("unpacked", 2, 1), 0), (("ready", 1, 1), 1), (("unpacked", 1, 1), 2), (("half", 1, 1), 2),
                              (("failed", 1, 1), 3), (("ready", 2, 2), None), (("half", 2, 1), None)):
            with self.subTest(state):
                goal = system.with_state("db", state)
                self.assertEqual(fewest_failures(system, [("unpack", "db", 2)], goal), fewest)

    def test_the_goal_of_another_store(self):
        system = one_package()
        for store in (Store((Edition("lib", 2),)), Store((Edition("lib", 1, scripts=()),)),
                      Store((Edition("lib", 1), Edition("db", 1)))):
            for deeds in ([], [("unpack", "lib", 1)]):
                with self.assertRaises(UnlikeStores):
                    fewest_failures(system, deeds, System(store, {}))

    def test_a_goal_of_an_equal_store(self):
        system = System(Store((Edition("lib", 1), Edition("db", 1))), {})
        goal = System(Store((Edition("db", 1), Edition("lib", 1))), {"lib": ("unpacked", 1, 0)})
        self.assertEqual(fewest_failures(system, [("unpack", "lib", 1)], goal), 0)

    def test_many_courses(self):
        system = one_package()
        self.assertEqual(course_count(system, [("unpack", "lib", 1), ("setup", "lib"), ("remove", "lib"),
                                               ("purge", "lib")] * 20) > 10 ** 12, True)

    def test_arguments_are_not_modified_and_lists_may_be(self):
        system = one_package()
        deeds = [("unpack", "lib", 1), ("setup", "lib")]
        found = ends(system, deeds)
        before = list(found)
        found.clear()
        self.assertEqual(ends(system, deeds), before)
        self.assertEqual(deeds, [("unpack", "lib", 1), ("setup", "lib")])
        self.assertEqual(system, one_package())

    def test_all_ways_of_failing(self):
        chooser = random.Random(7)
        for _ in range(150):
            system = random_system(chooser)
            deeds = [random_deed(chooser) for _ in range(chooser.randint(1, 5))]
            found = courses(system, deeds)
            with self.subTest(deeds):
                told = {tuple((call, failed) for before, call, failed in made) for made, end in found}
                self.assertEqual(len(told), len(found))
                self.assertEqual(course_count(system, deeds), len(found))
                fewest = {}
                for made, end in found:
                    key = tuple(end.states.items())
                    failed = sum(failed for before, call, failed in made)
                    fewest[key] = min(failed, fewest.get(key, failed))
                listed = ends(system, deeds)
                self.assertEqual([tuple(end.states.items()) for end in listed], sorted(fewest))
                self.assertEqual([fewest_failures(system, deeds, end) for end in listed],
                                 [fewest[key] for key in sorted(fewest)])


if __name__ == "__main__":
    unittest.main()

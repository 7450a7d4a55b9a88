"""Point 13: which calls are made, and what they can meet."""

import random
import unittest

from halfsetup.editions import Edition
from halfsetup.errors import UnknownName
from halfsetup.sights import calls_of, seen_by
from halfsetup.stores import Store
from halfsetup.systems import System
from tests.samples import courses, one_package, random_deed, random_system

ENTER_DB = ("db", 1, "enter", "install", 0)


def two_packages(states, lib_scripts=()):
    """The package db has one script, `enter`."""
    return System(Store((Edition("db", 1, scripts=("enter",)), Edition("lib", 1, scripts=lib_scripts))), states)


class CallsTest(unittest.TestCase):
    def test_the_interface_example(self):
        system = System(Store((Edition("db", 1, scripts=("enter",)), Edition("lib", 1))), {"lib": ("unpacked", 1, 0)})
        deeds = [("setup", "lib"), ("unpack", "db", 1)]
        self.assertEqual(
            [calls_of(system, deeds), seen_by(system, deeds, "lib")],
            [[("db", 1, "enter", "install", 0), ("lib", 1, "setup", "configure", 0)],
             {("db", 1, "enter", "install", 0): ("failed", "ready")}])

    def test_no_deeds(self):
        self.assertEqual(calls_of(one_package(), []), [])
        self.assertEqual(seen_by(one_package(), [], "lib"), {})

    def test_calls_that_only_failures_lead_to(self):
        system = one_package()
        self.assertEqual(calls_of(system, [("unpack", "lib", 1)]),
                         [("lib", 1, "clean", "abort-install", 0), ("lib", 1, "enter", "install", 0)])
        # Only if the first deed leaves it half there, the old version is 1.
        self.assertEqual(calls_of(system, [("unpack", "lib", 1)] * 2),
                         [("lib", 1, "clean", "abort-install", 0), ("lib", 1, "clean", "abort-install", 1),
                          ("lib", 1, "enter", "install", 0), ("lib", 1, "enter", "install", 1)])

    def test_deeds_that_cannot_begin_make_no_calls(self):
        system = one_package()
        refused = [("setup", "lib"), ("unpack", "lib", 2), ("remove", "web"), ("purge", "lib")]
        self.assertEqual(calls_of(system, refused), [])
        self.assertEqual(calls_of(system, [*refused, ("unpack", "lib", 1), ("unpack", "web", 1), ("setup", "lib")]),
                         calls_of(system, [("unpack", "lib", 1), ("setup", "lib")]))

    def test_a_deed_that_begins_in_some_courses_only(self):
        system = two_packages({"lib": ("unpacked", 1, 0)}, ("setup",))
        deeds = [("setup", "lib"), ("setup", "lib"), ("unpack", "db", 1)]
        self.assertEqual(calls_of(system, deeds), [ENTER_DB, ("lib", 1, "setup", "configure", 0)])
        self.assertEqual(seen_by(system, deeds, "lib"), {ENTER_DB: ("failed", "ready")})

    def test_calls_ascend_and_stand_once(self):
        store = Store((Edition("db", 1), Edition("db", 2), Edition("lib", 10), Edition("lib", 9)))
        deeds = [("unpack", "lib", 10), ("unpack", "db", 2), ("unpack", "lib", 9), ("unpack", "db", 1)] * 2
        found = calls_of(System(store, {}), deeds)
        self.assertEqual(found, sorted(set(found)))
        self.assertGreater(len(found), 20)

    def test_arguments_are_not_modified_and_lists_may_be(self):
        system, deeds = one_package(), [("unpack", "lib", 1), ("setup", "lib")]
        found = calls_of(system, deeds)
        before = list(found)
        found.clear()
        self.assertEqual(calls_of(system, deeds), before)
        self.assertEqual(deeds, [("unpack", "lib", 1), ("setup", "lib")])
        self.assertEqual(system, one_package())


class SeenTest(unittest.TestCase):
    def test_calls_of_the_package_itself_are_left_out(self):
        system = one_package()
        self.assertEqual(seen_by(system, [("unpack", "lib", 1), ("setup", "lib")], "lib"), {})
        deeds = [("unpack", "lib", 1), ("unpack", "db", 1), ("setup", "lib")]
        self.assertEqual(list(seen_by(two_packages({}, ("enter", "setup")), deeds, "lib")), [ENTER_DB])
        self.assertEqual(list(seen_by(two_packages({}, ("enter", "setup")), deeds, "db")),
                         [("lib", 1, "enter", "install", 0), ("lib", 1, "setup", "configure", 0)])

    def test_a_status_that_is_met_on_the_way_alone(self):
        deeds = [("unpack", "lib", 1), ("unpack", "db", 1), ("setup", "lib"), ("remove", "lib"), ("purge", "lib")]
        self.assertEqual(seen_by(two_packages({}), deeds, "lib"), {ENTER_DB: ("unpacked",)})

    def test_a_call_that_is_made_at_several_turns(self):
        unpack = ("unpack", "db", 1)
        deeds = [unpack, ("unpack", "lib", 1), unpack, ("setup", "lib"), unpack, ("remove", "lib"), unpack]
        self.assertEqual(seen_by(two_packages({}), deeds, "lib"), {ENTER_DB: ("absent", "left", "ready", "unpacked")})

    def test_all_statuses_ascend_as_texts(self):
        system = two_packages({}, ("clean", "enter", "leave", "setup"))
        deeds = [("unpack", "db", 1), ("unpack", "lib", 1), ("setup", "lib"), ("unpack", "db", 1), ("remove", "lib"),
                 ("unpack", "lib", 1), ("unpack", "db", 1)]
        self.assertEqual(seen_by(system, deeds, "lib"),
                         {ENTER_DB: ("absent", "failed", "half", "left", "ready", "unpacked")})

    def test_what_the_other_scripts_of_a_deed_see(self):
        system = System(Store((Edition("db", 1), Edition("lib", 1, scripts=()))), {"lib": ("half", 1, 0)})
        self.assertEqual(seen_by(system, [("unpack", "db", 1)], "lib"),
                         {("db", 1, "clean", "abort-install", 0): ("half",), ENTER_DB: ("half",)})

    def test_the_calls_ascend(self):
        store = Store((Edition("a", 1), Edition("c", 2), Edition("c", 1), Edition("b", 1)))
        deeds = [("unpack", "c", 2), ("unpack", "c", 1), ("unpack", "b", 1), ("unpack", "a", 1), ("setup", "a")]
        found = seen_by(System(store, {}), deeds, "b")
        self.assertEqual(list(found), sorted(found))
        self.assertEqual({call[0] for call in found}, {"a", "c"})
        self.assertEqual({type(statuses) for statuses in found.values()}, {tuple})

    def test_a_name_that_the_store_does_not_have(self):
        for deeds in ([], [("unpack", "lib", 1)], [("setup", "web")]):
            for name in ("web", "", "li"):
                with self.assertRaises(UnknownName):
                    seen_by(one_package(), deeds, name)

    def test_arguments_are_not_modified_and_dicts_may_be(self):
        system, deeds = two_packages({}), [("unpack", "lib", 1), ("unpack", "db", 1)]
        seen_by(system, deeds, "lib").clear()
        self.assertEqual(seen_by(system, deeds, "lib"), {ENTER_DB: ("unpacked",)})
        self.assertEqual(deeds, [("unpack", "lib", 1), ("unpack", "db", 1)])
        self.assertEqual(system, two_packages({}))


class AllCoursesTest(unittest.TestCase):
    def test_all_ways_of_failing(self):
        chooser = random.Random(13)
        for _ in range(150):
            system = random_system(chooser)
            deeds = [random_deed(chooser) for _ in range(chooser.randint(1, 5))]
            made = [one for calls, end in courses(system, deeds) for one in calls]
            with self.subTest(deeds):
                self.assertEqual(calls_of(system, deeds), sorted({call for before, call, failed in made}))
                for name in system.store.names:
                    expected = {}
                    for before, call, failed in made:
                        if call[0] != name:
                            expected.setdefault(call, set()).add(before[name][0])
                    found = seen_by(system, deeds, name)
                    self.assertEqual(list(found.items()),
                                     [(call, tuple(sorted(expected[call]))) for call in sorted(expected)])


if __name__ == "__main__":
    unittest.main()

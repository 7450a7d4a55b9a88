"""Point 6: why deeds cannot begin."""

import unittest

from halfsetup.deeds import refusal
from halfsetup.editions import Edition
from halfsetup.errors import Refused
from halfsetup.running import all_runs, run
from halfsetup.stores import Store
from halfsetup.systems import System

ABSENT = ("absent", 0, 0)
READY = ("ready", 1, 1)
STATES = {"absent": ABSENT, "failed": ("failed", 1, 0), "half": ("half", 1, 0), "left": ("left", 1, 0),
          "ready": READY, "unpacked": ("unpacked", 1, 0)}
THERE = ("failed", "half", "ready", "unpacked")


class RefusalTest(unittest.TestCase):
    def assert_refusal(self, editions, states, deed, why):
        """`run` and `all_runs` must tell the same as `refusal`."""
        system = System(Store(editions), states)
        self.assertEqual(refusal(system, deed), why)
        for call in (lambda: run(system, deed, ()), lambda: all_runs(system, deed)):
            if why is None:
                call()
            else:
                with self.assertRaises(Refused) as caught:
                    call()
                self.assertEqual(caught.exception.why, why)
        self.assertEqual(system, System(Store(editions), states))

    def test_the_interface_example(self):
        store = Store((Edition("db", 1, needs=(("lib", 1),)), Edition("lib", 1)))
        one = System(store, {"db": ("unpacked", 1, 0)})
        other = System(store, {"db": ("ready", 1, 1), "lib": ("ready", 1, 1)})
        self.assertEqual(
            [refusal(one, ("setup", "db")), refusal(one, ("unpack", "db", 2)), refusal(one, ("unpack", "lib", 1)),
             refusal(other, ("remove", "lib")), refusal(other, ("purge", "db"))],
            [("needs", "lib"), ("unknown",), None, ("needed", "db"), ("status",)])

    def test_what_the_store_does_not_have(self):
        editions = (Edition("db", 1), Edition("lib", 2))
        for deed in (("unpack", "db", 2), ("unpack", "web", 1), ("unpack", "db", 0), ("unpack", "", 1),
                     ("setup", "web"), ("remove", "web"), ("purge", "web"), ("purge", "")):
            with self.subTest(deed):
                self.assert_refusal(editions, {"db": READY}, deed, ("unknown",))

    def test_each_status(self):
        refused = {
            ("unpack", "db", 1): ("failed", "ready", "unpacked"),
            ("unpack", "db", 2): (),
            ("setup", "db"): ("absent", "half", "left", "ready"),
            ("remove", "db"): ("absent", "left"),
            ("purge", "db"): ("absent", "failed", "half", "ready", "unpacked"),
        }
        for deed, statuses in refused.items():
            for status, state in STATES.items():
                with self.subTest((deed, status)):
                    why = None
                    if status in statuses:
                        why = ("same",) if deed[0] == "unpack" else ("status",)
                    self.assert_refusal((Edition("db", 1), Edition("db", 2)), {"db": state}, deed, why)

    def test_unpack_needs_first(self):
        editions = (Edition("db", 1, first=(("app", 2), ("lib", 1))), Edition("app", 1), Edition("app", 2),
                    Edition("app", 3), Edition("lib", 1))
        deed = ("unpack", "db", 1)
        for app, lib, why in (
                (ABSENT, ABSENT, ("first", "app")), (READY, ABSENT, ("first", "app")), (READY, READY, ("first", "app")),
                (("ready", 2, 2), ABSENT, ("first", "lib")), (("ready", 3, 3), READY, None),
                (("ready", 2, 2), READY, None), (("unpacked", 2, 2), READY, ("first", "app")),
                (("failed", 3, 3), READY, ("first", "app")), (("ready", 2, 2), ("half", 1, 1), ("first", "lib")),
                (("ready", 2, 2), ("left", 1, 1), ("first", "lib"))):
            with self.subTest((app, lib)):
                self.assert_refusal(editions, {"app": app, "lib": lib}, deed, why)

    def test_unpack_does_not_ask_for_needs_nor_setup_for_first(self):
        self.assert_refusal((Edition("db", 1, needs=(("lib", 1),)),), {}, ("unpack", "db", 1), None)
        self.assert_refusal((Edition("db", 1, first=(("lib", 1),)),), {"db": ("unpacked", 1, 0)}, ("setup", "db"), None)

    def test_unpack_asks_for_first_of_the_new_edition(self):
        editions = (Edition("db", 1, first=(("lib", 1),)), Edition("db", 2))
        self.assert_refusal(editions, {"db": READY}, ("unpack", "db", 2), None)
        self.assert_refusal(editions, {"db": ("ready", 2, 2)}, ("unpack", "db", 1), ("first", "lib"))

    def test_unpack_against(self):
        for status, state in STATES.items():
            why = ("against", "lib") if status in THERE else None
            with self.subTest(status):
                self.assert_refusal((Edition("db", 1, against=("lib",)), Edition("lib", 1)), {"lib": state},
                                    ("unpack", "db", 1), why)
                self.assert_refusal((Edition("db", 1), Edition("lib", 1, against=("db",))), {"lib": state},
                                    ("unpack", "db", 1), why)

    def test_unpack_against_by_the_versions(self):
        editions = (Edition("db", 1), Edition("db", 2, against=("app",)), Edition("app", 1), Edition("lib", 1),
                    Edition("lib", 2, against=("db",)))
        self.assert_refusal(editions, {"app": READY, "lib": READY}, ("unpack", "db", 1), None)
        self.assert_refusal(editions, {"app": READY, "lib": READY}, ("unpack", "db", 2), ("against", "app"))
        self.assert_refusal(editions, {"app": READY, "lib": ("half", 2, 1)}, ("unpack", "db", 1), ("against", "lib"))
        self.assert_refusal(editions, {"db": READY, "app": READY}, ("unpack", "db", 2), ("against", "app"))

    def test_the_least_name_against_in_either_direction(self):
        editions = (Edition("m", 1, against=("x",)), Edition("x", 1), Edition("a", 1, against=("m",)), Edition("z", 1))
        ready = {"x": READY, "z": READY}
        self.assert_refusal(editions, ready, ("unpack", "m", 1), ("against", "x"))
        self.assert_refusal(editions, {**ready, "a": READY}, ("unpack", "m", 1), ("against", "a"))
        editions = (Edition("m", 1, against=("b",)), Edition("b", 1), Edition("x", 1, against=("m",)))
        self.assert_refusal(editions, {"b": READY, "x": READY}, ("unpack", "m", 1), ("against", "b"))

    def test_setup_needs(self):
        editions = (Edition("db", 1, needs=(("app", 1), ("lib", 2), ("web", 1))), Edition("app", 1), Edition("lib", 1),
                    Edition("lib", 2))
        for status in ("unpacked", "failed"):
            for app, lib, why in (
                    (ABSENT, ABSENT, ("needs", "app")), (READY, READY, ("needs", "lib")),
                    (("unpacked", 1, 1), ("ready", 2, 2), ("needs", "app")), (READY, ("ready", 2, 2), ("needs", "web"))):
                with self.subTest((status, app, lib)):
                    self.assert_refusal(editions, {"db": (status, 1, 0), "app": app, "lib": lib}, ("setup", "db"), why)

    def test_setup_needs_of_the_version_of_the_state(self):
        editions = (Edition("db", 1), Edition("db", 2, needs=(("lib", 1),)))
        self.assert_refusal(editions, {"db": ("unpacked", 1, 2)}, ("setup", "db"), None)
        self.assert_refusal(editions, {"db": ("unpacked", 2, 1)}, ("setup", "db"), ("needs", "lib"))

    def test_setup_does_not_ask_what_is_against(self):
        editions = (Edition("db", 1, against=("lib",)), Edition("lib", 1))
        self.assert_refusal(editions, {"db": ("unpacked", 1, 0), "lib": READY}, ("setup", "db"), None)

    def test_remove_what_is_needed(self):
        editions = (Edition("lib", 1), Edition("web", 1, needs=(("lib", 1),)), Edition("app", 1, needs=(("lib", 9),)))
        for status, state in STATES.items():
            with self.subTest(status):
                why = ("needed", "web") if status == "ready" else None
                self.assert_refusal(editions, {"lib": READY, "web": state}, ("remove", "lib"), why)
        self.assert_refusal(editions, {"lib": READY, "web": READY, "app": READY}, ("remove", "lib"), ("needed", "app"))
        self.assert_refusal(editions, {"lib": ("half", 1, 0), "web": READY}, ("remove", "lib"), ("needed", "web"))
        self.assert_refusal(editions, {"lib": READY, "web": READY}, ("remove", "web"), None)

    def test_remove_what_is_needed_by_the_version_of_the_state(self):
        editions = (Edition("lib", 1), Edition("db", 1), Edition("db", 2, needs=(("lib", 1),)),
                    Edition("app", 1, first=(("lib", 1),), against=()))
        self.assert_refusal(editions, {"lib": READY, "db": READY, "app": READY}, ("remove", "lib"), None)
        self.assert_refusal(editions, {"lib": READY, "db": ("ready", 2, 2)}, ("remove", "lib"), ("needed", "db"))

    def test_the_first_of_two_reasons_is_told(self):
        editions = (Edition("db", 1, needs=(("app", 1),), first=(("lib", 1),), against=("web",)), Edition("web", 1),
                    Edition("lib", 1), Edition("app", 1, needs=(("lib", 1),)))
        self.assert_refusal(editions, {"db": READY, "web": READY}, ("unpack", "db", 1), ("same",))
        self.assert_refusal(editions, {"web": READY}, ("unpack", "db", 1), ("first", "lib"))
        self.assert_refusal(editions, {"web": READY, "lib": READY}, ("unpack", "db", 1), ("against", "web"))
        self.assert_refusal(editions, {"db": READY}, ("setup", "db"), ("status",))
        self.assert_refusal(editions, {"app": READY}, ("remove", "lib"), ("status",))
        self.assert_refusal(editions, {"app": READY, "lib": ("left", 1, 1)}, ("remove", "lib"), ("status",))


if __name__ == "__main__":
    unittest.main()

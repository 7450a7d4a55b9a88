"""Points 4 and 5: states and systems."""

import itertools
import unittest

from halfsetup.courses import ends
from halfsetup.editions import Edition
from halfsetup.errors import InvalidSystem, UnknownName
from halfsetup.stores import Store
from halfsetup.systems import System, is_sound

STATUSES = ("absent", "failed", "half", "left", "ready", "unpacked")
ABSENT = ("absent", 0, 0)


def store_of(*keys):
    return Store(tuple(Edition(name, version) for name, version in keys))


class StateTest(unittest.TestCase):
    """The store has the versions 1 and 3 of db, and 2 of lib."""

    def setUp(self):
        self.store = store_of(("db", 3), ("db", 1), ("lib", 2))

    def assert_wrong(self, package, states):
        with self.assertRaises(InvalidSystem) as caught:
            System(self.store, states)
        self.assertEqual(caught.exception.package, package)

    def test_each_status_with_each_version_and_done(self):
        right = {ABSENT, ("ready", 1, 1), ("ready", 3, 3)}
        right |= {(status, version, done) for status in ("failed", "half", "left", "unpacked")
                  for version in (1, 3) for done in (0, 1, 3)}
        for state in itertools.product(STATUSES, range(5), range(5)):
            with self.subTest(state):
                if state in right:
                    self.assertEqual(System(self.store, {"db": state})["db"], state)
                else:
                    self.assert_wrong("db", {"db": state})

    def test_what_is_no_state_at_all(self):
        for state in (("", 0, 0), ("gone", 1, 1), ("Ready", 1, 1), ("ready", 1), (), ["ready", 1, 1],
                      ("ready", True, 1), ("ready", 1, True), ("absent", False, 0), ("absent", 0, False),
                      ("left", 1, False), ("left", 1, True), ("ready", -1, -1), ("left", 1, -1),
                      ("absent", -1, 0), ("absent", 0, -1)):
            with self.subTest(state):
                self.assert_wrong("db", {"db": state})

    def test_versions_of_another_package_do_not_count(self):
        for state in (("ready", 2, 2), ("unpacked", 2, 0), ("left", 1, 2)):
            with self.subTest(state):
                self.assert_wrong("db", {"db": state})
        for state in (("ready", 1, 1), ("left", 2, 1), ("failed", 2, 3)):
            with self.subTest(state):
                self.assert_wrong("lib", {"lib": state})

    def test_names_that_the_store_does_not_have(self):
        for name in ("web", "", "DB", "a"):
            with self.subTest(name):
                self.assert_wrong(name, {name: ABSENT})
                self.assert_wrong(name, {name: ("ready", 1, 1)})

    def test_the_least_package_is_told(self):
        wrong = ("ready", 9, 9)
        self.assert_wrong("db", {"lib": wrong, "db": wrong})
        self.assert_wrong("db", {"web": ABSENT, "db": wrong})
        self.assert_wrong("app", {"lib": wrong, "db": wrong, "app": ABSENT})
        self.assert_wrong("lib", {"web": ABSENT, "lib": wrong, "db": ("ready", 1, 1)})
        self.assert_wrong("db", {"lib": ("ready", 2, 2), "db": wrong})


class SystemTest(unittest.TestCase):
    def setUp(self):
        self.store = store_of(("lib", 1), ("db", 2), ("db", 1), ("app", 1))
        self.system = System(self.store, {"lib": ("ready", 1, 1), "db": ("failed", 2, 1)})

    def test_the_interface_example(self):
        store = Store((Edition("db", 1, needs=(("lib", 1),)), Edition("lib", 1)))
        system = System(store, {"db": ("ready", 1, 1)})
        self.assertEqual(
            [system.states, system["lib"], is_sound(system), is_sound(system.with_state("lib", ("ready", 1, 1)))],
            [{"db": ("ready", 1, 1), "lib": ("absent", 0, 0)}, ("absent", 0, 0), False, True])
        with self.assertRaises(InvalidSystem) as caught:
            System(Store((Edition("db", 1), Edition("db", 2))), {"db": ("ready", 1, 2)})
        self.assertEqual(caught.exception.package, "db")

    def test_states_have_all_names_ascending(self):
        self.assertEqual(list(self.system.states.items()),
                         [("app", ABSENT), ("db", ("failed", 2, 1)), ("lib", ("ready", 1, 1))])
        self.assertEqual(list(System(self.store, {}).states.items()),
                         [("app", ABSENT), ("db", ABSENT), ("lib", ABSENT)])

    def test_the_store_is_a_property(self):
        self.assertTrue(self.system.store == self.store)
        self.assertIsInstance(vars(System)["store"], property)
        self.assertIsInstance(vars(System)["states"], property)

    def test_items_are_states(self):
        self.assertEqual([self.system[name] for name in ("app", "db", "lib")],
                         [ABSENT, ("failed", 2, 1), ("ready", 1, 1)])
        for name in ("web", "", "DB"):
            with self.subTest(name), self.assertRaises(UnknownName):
                self.system[name]

    def test_with_state_returns_another_system(self):
        later = self.system.with_state("db", ("left", 1, 2))
        self.assertEqual(later.states, {"app": ABSENT, "db": ("left", 1, 2), "lib": ("ready", 1, 1)})
        self.assertEqual(list(later.states), ["app", "db", "lib"])
        self.assertEqual(self.system["db"], ("failed", 2, 1))
        self.assertEqual(later.with_state("lib", ABSENT)["lib"], ABSENT)
        self.assertEqual(later.with_state("app", ("half", 1, 0))["app"], ("half", 1, 0))

    def test_with_state_of_an_unknown_name(self):
        for state in (ABSENT, ("ready", 9, 9)):
            with self.subTest(state), self.assertRaises(UnknownName):
                self.system.with_state("web", state)

    def test_with_state_that_cannot_be(self):
        for name, state in (("app", ("ready", 2, 2)), ("lib", ("ready", 1, 0)), ("db", ("absent", 1, 0))):
            with self.subTest(name), self.assertRaises(InvalidSystem) as caught:
                self.system.with_state(name, state)
            self.assertEqual(caught.exception.package, name)
        self.assertEqual(self.system["app"], ABSENT)

    def test_systems_are_equal_if_stores_and_states_are(self):
        same = System(store_of(("app", 1), ("db", 1), ("db", 2), ("lib", 1)),
                      {"app": ABSENT, "db": ("failed", 2, 1), "lib": ("ready", 1, 1)})
        self.assertTrue(self.system == same)
        self.assertFalse(self.system != same)
        self.assertFalse(self.system == self.system.with_state("app", ("left", 1, 0)))
        self.assertFalse(self.system == self.system.with_state("db", ("failed", 2, 2)))
        wider = store_of(("lib", 1), ("lib", 2), ("db", 2), ("db", 1), ("app", 1))
        self.assertFalse(self.system == System(wider, self.system.states))
        self.assertFalse(self.system == self.system.states)
        self.assertFalse(self.system == None)  # noqa: E711

    def test_a_system_cannot_be_iterated_over(self):
        with self.assertRaises(TypeError):
            iter(self.system)
        with self.assertRaises(TypeError):
            list(self.system)
        with self.assertRaises(TypeError):
            "db" in self.system

    def test_arguments_are_neither_modified_nor_kept(self):
        states = {"lib": ("ready", 1, 1)}
        system = System(self.store, states)
        self.assertEqual(states, {"lib": ("ready", 1, 1)})
        states["lib"] = ("left", 1, 0)
        states["db"] = ("ready", 9, 9)
        self.assertEqual(system.states, {"app": ABSENT, "db": ABSENT, "lib": ("ready", 1, 1)})

    def test_returned_states_may_be_modified(self):
        self.system.states["db"] = ABSENT
        self.system.states.clear()
        self.assertEqual(self.system.states, {"app": ABSENT, "db": ("failed", 2, 1), "lib": ("ready", 1, 1)})
        self.assertEqual(self.system["db"], ("failed", 2, 1))

    def test_systems_are_ordered_by_the_states_in_the_order_of_the_names(self):
        store = store_of(("b", 1), ("a", 1))
        found = ends(System(store, {}), [("unpack", "b", 1), ("unpack", "a", 1)])
        self.assertEqual([(one["a"], one["b"]) for one in found],
                         sorted((one["a"], one["b"]) for one in found))
        self.assertEqual([(one["a"][0], one["b"][0]) for one in found],
                         list(itertools.product(("absent", "half", "unpacked"), repeat=2)))


class SoundTest(unittest.TestCase):
    def system(self, editions, **states):
        return System(Store(editions), states)

    def test_each_status(self):
        for status in STATUSES:
            state = ABSENT if status == "absent" else (status, 1, 1)
            with self.subTest(status):
                system = self.system((Edition("db", 1), Edition("lib", 1)), db=state)
                self.assertIs(is_sound(system), status in ("absent", "left", "ready"))
                self.assertIs(is_sound(system.with_state("lib", ("ready", 1, 1))),
                              status in ("absent", "left", "ready"))

    def test_needs_are_met_by_what_is_ready(self):
        editions = (Edition("db", 1, needs=(("lib", 2),)), *(Edition("lib", version) for version in (1, 2, 3)))
        for lib, sound in ((ABSENT, False), (("ready", 1, 1), False), (("ready", 2, 2), True),
                           (("ready", 3, 3), True), (("left", 2, 2), False)):
            with self.subTest(lib):
                self.assertIs(is_sound(self.system(editions, db=("ready", 1, 1), lib=lib)), sound)

    def test_a_need_that_the_store_does_not_have_is_never_met(self):
        self.assertFalse(is_sound(self.system((Edition("db", 1, needs=(("lib", 1),)),), db=("ready", 1, 1))))

    def test_all_needs_are_asked(self):
        editions = (Edition("db", 1, needs=(("app", 1), ("lib", 1))), Edition("lib", 1), Edition("app", 1))
        ready = ("ready", 1, 1)
        self.assertFalse(is_sound(self.system(editions, db=ready, app=ready)))
        self.assertFalse(is_sound(self.system(editions, db=ready, lib=ready)))
        self.assertTrue(is_sound(self.system(editions, db=ready, lib=ready, app=ready)))

    def test_only_the_parameter_needs_is_asked(self):
        self.assertTrue(is_sound(self.system((Edition("db", 1, first=(("lib", 1),)),), db=("ready", 1, 1))))

    def test_needs_of_what_is_not_ready_do_not_matter(self):
        editions = (Edition("db", 1, needs=(("lib", 1),)), Edition("db", 2, needs=(("lib", 1),)))
        self.assertTrue(is_sound(self.system(editions, db=("left", 1, 1))))

    def test_needs_are_those_of_the_version_of_the_state(self):
        editions = (Edition("db", 1), Edition("db", 2, needs=(("lib", 1),)))
        self.assertTrue(is_sound(self.system(editions, db=("ready", 1, 1))))
        self.assertFalse(is_sound(self.system(editions, db=("ready", 2, 2))))

    def test_what_is_against_another_package(self):
        for editions in ((Edition("a", 1, against=("b",)), Edition("b", 1)),
                         (Edition("a", 1), Edition("b", 1, against=("a",)))):
            for other, sound in ((ABSENT, True), (("left", 1, 1), True), (("ready", 1, 1), False)):
                with self.subTest(other):
                    self.assertIs(is_sound(self.system(editions, a=("ready", 1, 1), b=other)), sound)
                    self.assertIs(is_sound(self.system(editions, b=("ready", 1, 1), a=other)), sound)

    def test_against_counts_by_the_version_of_the_state(self):
        editions = (Edition("a", 1), Edition("a", 2, against=("b",)), Edition("b", 1))
        self.assertTrue(is_sound(self.system(editions, a=("ready", 1, 1), b=("ready", 1, 1))))
        self.assertFalse(is_sound(self.system(editions, a=("ready", 2, 2), b=("ready", 1, 1))))

    def test_against_what_the_store_does_not_have(self):
        self.assertTrue(is_sound(self.system((Edition("a", 1, against=("b",)),), a=("ready", 1, 1))))


if __name__ == "__main__":
    unittest.main()

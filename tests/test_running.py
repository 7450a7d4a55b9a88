"""Points 7 to 11: the calls of deeds, and the states behind them."""

import itertools
import unittest

from halfsetup.editions import Edition
from halfsetup.errors import Refused
from halfsetup.running import all_runs, run
from halfsetup.stores import Store
from halfsetup.systems import System

ALL = ("clean", "enter", "leave", "setup")
SUBSETS = [some for count in range(5) for some in itertools.combinations(ALL, count)]
STAYS = None

# The old version is 1, the new one 2. A letter is a call, a capital letter one that fails.
INSTALL = {"i": (2, "enter", "install", 1), "j": (2, "clean", "abort-install", 1)}
FRESH = {"i": (2, "enter", "install", 0), "j": (2, "clean", "abort-install", 0)}
UPGRADE = {
    "a": (1, "leave", "upgrade", 2), "b": (2, "leave", "failed-upgrade", 1), "c": (1, "setup", "abort-upgrade", 2),
    "d": (2, "enter", "upgrade", 1), "e": (1, "clean", "upgrade", 2), "f": (2, "clean", "failed-upgrade", 1),
    "g": (1, "enter", "abort-upgrade", 2), "h": (2, "clean", "abort-upgrade", 1),
}
REMOVE = {"l": (1, "leave", "remove", 0), "s": (1, "setup", "abort-remove", 0), "c": (1, "clean", "remove", 0)}

# What all runs come to, if the editions have all scripts.
INSTALLED = {"i": ("unpacked", 2), "Ij": STAYS, "IJ": ("half", 2)}
UPGRADED = {"de": ("unpacked", 2), "Dh": STAYS, "DH": ("half", 1), "dEf": ("unpacked", 2), "dEFgh": STAYS,
            "dEFgH": ("half", 1), "dEFG": ("half", 1)}
ENTERED = {"de": ("unpacked", 2), "Dhc": STAYS, "DhC": ("unpacked", 1), "DH": ("half", 1), "dEf": ("unpacked", 2),
           "dEFghc": STAYS, "dEFghC": ("unpacked", 1), "dEFgH": ("half", 1), "dEFG": ("half", 1)}
LEFT_AND_UPGRADED = {**{"a" + way: state for way, state in ENTERED.items()},
                     **{"Ab" + way: state for way, state in ENTERED.items()},
                     "ABc": STAYS, "ABC": ("failed", 1)}
REMOVED = {"c": ("left", 1), "C": ("half", 1)}
LEFT_AND_REMOVED = {"lc": ("left", 1), "lC": ("half", 1), "Ls": STAYS, "LS": ("failed", 1)}


def states_with(status):
    return [(status, 1, 1)] if status == "ready" else [(status, 1, 3), (status, 1, 0), (status, 1, 1)]


def store_with(old_scripts=ALL, new_scripts=ALL):
    return Store((Edition("db", 1, scripts=old_scripts), Edition("db", 2, scripts=new_scripts), Edition("db", 3),
                  Edition("lib", 1)))


def expected_runs(code, ways, state, scripts):
    """The ordered tuples (fails, state, calls) of those runs in which no lacking script fails."""
    runs = []
    for way, end in ways.items():
        letters = [letter for letter in way if code[letter.lower()][1] in scripts[code[letter.lower()][0]]]
        if any(letter.isupper() and letter not in letters for letter in way):
            continue
        fails = tuple(at for at, letter in enumerate(letters) if letter.isupper())
        calls = [(("db", *code[letter.lower()]), letter.isupper()) for letter in letters]
        runs.append((fails, state if end is STAYS else (*end, state[2]), calls))
    return sorted(runs)


class WaysTest(unittest.TestCase):
    def assert_runs(self, deed, state, code, ways, scripts):
        system = System(store_with(scripts[1], scripts[2]), {"db": state, "lib": ("left", 1, 0)})
        found = all_runs(system, deed)
        expected = expected_runs(code, ways, state, scripts)
        self.assertEqual([(fails, later["db"], calls) for fails, later, calls in found], expected)
        for fails, later, calls in found:
            self.assertEqual(later, system.with_state("db", later["db"]))
            self.assertEqual(run(system, deed, fails), (later, calls))

    def assert_all(self, deed, statuses, code, ways):
        """With all scripts, and with every choice of scripts of the old edition and the new one."""
        for status in statuses:
            for state in [("absent", 0, 0)] if status == "absent" else states_with(status):
                for old_scripts, new_scripts in itertools.product(SUBSETS, SUBSETS):
                    with self.subTest((deed, state, old_scripts, new_scripts)):
                        self.assert_runs(deed, state, code, ways, {1: old_scripts, 2: new_scripts})

    def test_unpack_what_is_absent(self):
        self.assert_all(("unpack", "db", 2), ["absent"], FRESH, INSTALLED)

    def test_unpack_what_is_left_or_half(self):
        self.assert_all(("unpack", "db", 2), ["left", "half"], INSTALL, INSTALLED)

    def test_unpack_what_is_unpacked(self):
        self.assert_all(("unpack", "db", 2), ["unpacked"], UPGRADE, UPGRADED)

    def test_unpack_what_is_failed_or_ready(self):
        self.assert_all(("unpack", "db", 2), ["failed", "ready"], UPGRADE, LEFT_AND_UPGRADED)

    def test_remove_what_is_half_or_unpacked(self):
        self.assert_all(("remove", "db"), ["half", "unpacked"], REMOVE, REMOVED)

    def test_remove_what_is_failed_or_ready(self):
        self.assert_all(("remove", "db"), ["failed", "ready"], REMOVE, LEFT_AND_REMOVED)

    def test_set_up(self):
        for done in (0, 1, 3):
            for status in ("failed", "unpacked"):
                for scripts in SUBSETS:
                    with self.subTest((done, status, scripts)):
                        system = System(store_with(scripts), {"db": (status, 1, done)})
                        call = ("db", 1, "setup", "configure", done)
                        expected = [((), ("ready", 1, 1), [(call, False)]), ((0,), ("failed", 1, done), [(call, True)])]
                        if "setup" not in scripts:
                            expected = [((), ("ready", 1, 1), [])]
                        found = all_runs(system, ("setup", "db"))
                        self.assertEqual([(fails, later["db"], calls) for fails, later, calls in found], expected)

    def test_purge(self):
        for state in states_with("left"):
            for scripts in SUBSETS:
                with self.subTest((state, scripts)):
                    system = System(store_with(scripts), {"db": state})
                    call = ("db", 1, "clean", "purge", 0)
                    expected = [((), ("absent", 0, 0), [(call, False)]), ((0,), state, [(call, True)])]
                    if "clean" not in scripts:
                        expected = [((), ("absent", 0, 0), [])]
                    found = all_runs(system, ("purge", "db"))
                    self.assertEqual([(fails, later["db"], calls) for fails, later, calls in found], expected)

    def test_unpack_over_half_of_the_same_version(self):
        for status in ("half", "left"):
            system = System(store_with(), {"db": (status, 2, 1)})
            later, calls = run(system, ("unpack", "db", 2), (0, 1))
            self.assertEqual(later["db"], ("half", 2, 1))
            self.assertEqual([call for call, failed in calls],
                             [("db", 2, "enter", "install", 2), ("db", 2, "clean", "abort-install", 2)])

    def test_unpack_an_older_version(self):
        later, calls = run(System(store_with(), {"db": ("ready", 3, 3)}), ("unpack", "db", 1), ())
        self.assertEqual(later["db"], ("unpacked", 1, 3))
        self.assertEqual(calls, [(("db", 3, "leave", "upgrade", 1), False), (("db", 1, "enter", "upgrade", 3), False),
                                 (("db", 3, "clean", "upgrade", 1), False)])


class RunTest(unittest.TestCase):
    def setUp(self):
        self.system = System(Store((Edition("db", 1), Edition("db", 2))), {"db": ("ready", 1, 1)})
        self.deed = ("unpack", "db", 2)

    def test_the_interface_example(self):
        later, calls = run(self.system, self.deed, (0,))
        self.assertEqual(
            [later["db"], [failed for call, failed in calls], calls[1][0], run(self.system, self.deed, (0, 1))[0]["db"],
             len(all_runs(self.system, self.deed))],
            [("unpacked", 2, 1), [True, False, False, False], ("db", 2, "leave", "failed-upgrade", 1), ("ready", 1, 1),
             20])
        with self.assertRaises(Refused) as caught:
            run(System(Store((Edition("db", 1),)), {}), ("setup", "db"), ())
        self.assertEqual(caught.exception.why, ("status",))

    def test_numbers_beyond_do_nothing(self):
        for fails, same in (((3,), ()), ((5, 8, 99), ()), ((0, 1, 3), (0, 1)), ((0, 9), (0,)), ((1, 2, 3, 7), (1, 2))):
            with self.subTest(fails):
                self.assertEqual(run(self.system, self.deed, fails), run(self.system, self.deed, same))

    def test_numbers_count_the_calls_that_are_made(self):
        store = Store((Edition("db", 1, scripts=("clean",)), Edition("db", 2, scripts=("clean", "enter"))))
        later, calls = run(System(store, {"db": ("ready", 1, 1)}), self.deed, (1,))
        self.assertEqual(later["db"], ("unpacked", 2, 1))
        self.assertEqual(calls, [(("db", 2, "enter", "upgrade", 1), False), (("db", 1, "clean", "upgrade", 2), True),
                                 (("db", 2, "clean", "failed-upgrade", 1), False)])

    def test_results_are_tuples_and_lists(self):
        result = run(self.system, self.deed, ())
        self.assertIsInstance(result, tuple)
        self.assertIsInstance(result[0], System)
        self.assertIsInstance(result[1], list)
        runs = all_runs(self.system, self.deed)
        self.assertIsInstance(runs, list)
        for one in runs:
            self.assertEqual([type(part) for part in one], [tuple, System, list])

    def test_runs_come_in_the_order_of_their_fails_and_each_once(self):
        found = [fails for fails, later, calls in all_runs(self.system, self.deed)]
        self.assertEqual(found, sorted(set(found)))
        self.assertEqual(found[:7], [(), (0,), (0, 1), (0, 1, 2), (0, 2), (0, 2, 3), (0, 2, 4)])

    def test_fails_have_just_the_calls_that_failed(self):
        for fails, later, calls in all_runs(self.system, self.deed):
            self.assertEqual(fails, tuple(at for at, (call, failed) in enumerate(calls) if failed))

    def test_other_packages_stay_and_the_system_is_not_modified(self):
        store = Store((Edition("db", 1), Edition("db", 2), Edition("lib", 1)))
        states = {"db": ("ready", 1, 1), "lib": ("half", 1, 0)}
        system = System(store, states)
        for fails, later, calls in all_runs(system, self.deed):
            self.assertEqual(later["lib"], ("half", 1, 0))
        run(system, self.deed, (0, 1, 2))
        self.assertEqual(system.states, states)

    def test_returned_lists_may_be_modified(self):
        before = all_runs(self.system, self.deed)
        found = all_runs(self.system, self.deed)
        found[0][2].clear()
        found.clear()
        run(self.system, self.deed, ())[1].clear()
        self.assertEqual(all_runs(self.system, self.deed), before)
        self.assertEqual(len(run(self.system, self.deed, ())[1]), 3)

    def test_both_refuse_what_cannot_begin(self):
        for deed, why in ((("unpack", "db", 1), ("same",)), (("unpack", "db", 3), ("unknown",)),
                          (("setup", "db"), ("status",)), (("purge", "db"), ("status",)), (("remove", "x"), ("unknown",))):
            with self.subTest(deed):
                with self.assertRaises(Refused) as caught:
                    run(self.system, deed, (0,))
                self.assertEqual(caught.exception.why, why)
                with self.assertRaises(Refused) as caught:
                    all_runs(self.system, deed)
                self.assertEqual(caught.exception.why, why)


if __name__ == "__main__":
    unittest.main()

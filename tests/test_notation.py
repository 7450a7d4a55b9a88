"""Point 28: the texts of systems."""

import random
import unittest

from halfsetup.editions import Edition
from halfsetup.errors import InvalidEdition, InvalidStore, InvalidSystem, InvalidText
from halfsetup.notation import format_system, parse_system
from halfsetup.stores import Store
from halfsetup.systems import System
from tests.samples import random_rich_system

FULL = "\n".join((
    "edition app 3",
    "scripts enter leave",
    "needs db 2 lib 10",
    "first lib 1",
    "against web www",
    "edition db 9",
    "edition db 10",
    "scripts",
    "edition lib 1",
    "against app",
    "state app half 3 0",
    "state db unpacked 10 9",
))


def wrong_place(text):
    """The row and the word of InvalidText."""
    try:
        parse_system(text)
    except InvalidText as error:
        return (error.row, error.word)
    return None


def rows_with(*rows):
    return "\n".join(rows)


class FormatTest(unittest.TestCase):
    def test_the_interface_examples(self):
        store = Store((Edition("db", 1, scripts=("setup",), needs=(("lib", 2),)), Edition("lib", 1)))
        system = System(store, {"lib": ("half", 1, 0)})
        self.assertEqual([format_system(system), parse_system(format_system(system)) == system],
                         ["edition db 1\nscripts setup\nneeds lib 2\nedition lib 1\nstate lib half 1 0", True])
        self.assertEqual(wrong_place("edition db 1\nstate lib absent 0 0"), (1, 2))

    def test_all_kinds_of_rows(self):
        store = Store((
            Edition("lib", 1, against=("app",)), Edition("db", 10, scripts=()), Edition("db", 9),
            Edition("app", 3, scripts=("enter", "leave"), needs=(("db", 2), ("lib", 10)), first=(("lib", 1),),
                    against=("web", "www"))))
        system = System(store, {"db": ("unpacked", 10, 9), "app": ("half", 3, 0)})
        self.assertEqual(format_system(system), FULL)
        self.assertEqual(parse_system(FULL), system)

    def test_a_single_edition(self):
        system = System(Store((Edition("a", 99),)), {})
        self.assertEqual(format_system(system), "edition a 99")
        self.assertEqual(parse_system("edition a 99"), system)

    def test_all_statuses(self):
        store = Store((Edition("a", 1), Edition("a", 2)))
        for state in (("failed", 2, 1), ("half", 1, 0), ("left", 2, 2), ("ready", 1, 1), ("unpacked", 2, 0)):
            system = System(store, {"a": state})
            text = f"edition a 1\nedition a 2\nstate a {state[0]} {state[1]} {state[2]}"
            self.assertEqual((format_system(system), parse_system(text)), (text, system))

    def test_a_row_with_all_four_scripts_can_stand(self):
        self.assertEqual(parse_system("edition a 1\nscripts clean enter leave setup"), parse_system("edition a 1"))

    def test_texts_lead_back_to_equal_systems(self):
        chooser = random.Random(30)
        for _ in range(300):
            system = random_rich_system(chooser)
            text = format_system(system)
            self.assertEqual(parse_system(text), system)
            self.assertEqual(format_system(parse_system(text)), text)
            self.assertEqual(format_system(system), text)


class InvalidTextTest(unittest.TestCase):
    def assert_wrong(self, cases):
        for rows, place in cases:
            with self.subTest(rows):
                self.assertEqual(wrong_place("\n".join(rows)), place)

    def test_empty_texts_rows_and_words(self):
        self.assert_wrong((
            ([""], (0, 0)), (["", ""], (0, 0)), (["", "edition a 1"], (0, 0)), (["edition a 1", ""], (1, 0)),
            (["edition a 1", "", "edition b 1"], (1, 0)), ([" edition a 1"], (0, 0)), (["edition  a 1"], (0, 1)),
            (["edition a  1"], (0, 2)), (["edition a 1 "], (0, 3)), (["edition a 1", "scripts "], (1, 1)),
            (["edition a 1", "scripts clean "], (1, 2)), (["edition a 1", "needs b 1 "], (1, 3)),
            (["edition a 1", "against b "], (1, 2)), (["edition a 1", "state a left 1 1 "], (1, 5)),
            (["edition a 1", " "], (1, 0)), (["edition\ta 1"], (0, 0)), (["edition a 1\r", "edition b 1"], (0, 2))))

    def test_first_words_that_cannot_stand(self):
        parts = ["scripts", "needs b 1", "first b 1", "against b"]
        state = "state a left 1 1"
        cases = [([row], (0, 0)) for row in (*parts, state, "Edition a 1", "editions a 1", "x")]
        for at, row in enumerate(parts):
            # No part of an edition stands behind itself or a later one, nor behind a state.
            cases += [(["edition a 1", later, row], (2, 0)) for later in parts[at:]]
            cases.append((["edition a 1", state, row], (2, 0)))
            cases += [(["edition a 1", earlier, row, "x"], (3, 0)) for earlier in parts[:at]]
        cases += [(["edition a 1", state, "edition b 1"], (2, 0)), (["edition a 1", state, "edition a 2"], (2, 0)),
                  (["edition a 1", "x"], (1, 0)), (["edition a 1", "states a left 1 1"], (1, 0)),
                  (["edition a 1", "name a"], (1, 0)), (["edition a 1", "version 1"], (1, 0))]
        self.assert_wrong(cases)

    def test_parts_begin_anew_for_each_edition(self):
        text = rows_with("edition a 1", "against b", "edition a 2", "scripts", "against b", "edition b 1", "needs a 1")
        self.assertIsNone(wrong_place(text))

    def test_missing_words(self):
        self.assert_wrong((
            (["edition"], (0, 1)), (["edition a"], (0, 2)), (["edition a 1", "needs"], (1, 1)),
            (["edition a 1", "needs b"], (1, 2)), (["edition a 1", "needs b 1 c"], (1, 4)),
            (["edition a 1", "first"], (1, 1)), (["edition a 1", "first b"], (1, 2)),
            (["edition a 1", "first b 1 c"], (1, 4)), (["edition a 1", "against"], (1, 1)),
            (["edition a 1", "state"], (1, 1)), (["edition a 1", "state a"], (1, 2)),
            (["edition a 1", "state a left"], (1, 3)), (["edition a 1", "state a left 1"], (1, 4)),
            # The first row that is wrong counts.
            (["edition a", "edition b x"], (0, 2)), (["edition a 1", "against", "x"], (1, 1))))

    def test_superfluous_words(self):
        self.assert_wrong((
            (["edition a 1 1"], (0, 3)), (["edition a 1 1 1"], (0, 3)), (["edition a 1", "state a left 1 1 1"], (1, 5)),
            (["edition a 1", "state a left 1 1 x y"], (1, 5))))

    def test_names_that_are_no_words(self):
        for name in ("A", "abcdefghi", "a1", "1", "a-b"):
            self.assert_wrong((
                ([f"edition {name} 1"], (0, 1)), (["edition a 1", f"needs {name} 1"], (1, 1)),
                (["edition a 1", f"needs b 1 {name} 1"], (1, 3)), (["edition a 1", f"first {name} 1"], (1, 1)),
                (["edition a 1", f"against b {name}"], (1, 2)), (["edition a 1", f"state {name} left 1 1"], (1, 1))))

    def test_numbers_that_are_none(self):
        for number in ("00", "01", "100", "-1", "+1", "x", "1x", "1.0", "\u0661"):
            self.assert_wrong((
                ([f"edition a {number}"], (0, 2)), (["edition a 1", f"needs b {number}"], (1, 2)),
                (["edition a 1", f"first b 1 c {number}"], (1, 4)),
                (["edition a 1", f"state a left {number} 1"], (1, 3)),
                (["edition a 1", f"state a left 1 {number}"], (1, 4))))

    def test_scripts_and_statuses_that_are_none(self):
        self.assert_wrong((
            (["edition a 1", "scripts install"], (1, 1)), (["edition a 1", "scripts clean Setup"], (1, 2)),
            (["edition a 1", "scripts clean enter leave setup x"], (1, 5)),
            (["edition a 1", "state a absent 0 0"], (1, 2)), (["edition a 1", "state a gone 1 1"], (1, 2)),
            (["edition a 1", "state a Ready 1 1"], (1, 2)), (["edition a 1", "state a 1 1 1"], (1, 2))))

    def test_what_does_not_ascend_in_a_row(self):
        self.assert_wrong((
            (["edition a 1", "scripts enter clean"], (1, 2)), (["edition a 1", "scripts setup setup"], (1, 2)),
            (["edition a 1", "scripts clean enter leave enter"], (1, 4)),
            (["edition a 1", "needs c 1 b 2"], (1, 3)), (["edition a 1", "needs b 1 b 2"], (1, 3)),
            (["edition a 1", "needs b 1 b x"], (1, 3)), (["edition a 1", "first b 1 c 1 b 1"], (1, 5)),
            (["edition a 1", "first c 1 c 2"], (1, 3)), (["edition a 1", "against c b"], (1, 2)),
            (["edition a 1", "against b b"], (1, 2)), (["edition a 1", "against b c c"], (1, 3))))

    def test_editions_that_do_not_ascend(self):
        self.assert_wrong((
            (["edition b 1", "edition a 2"], (1, 1)), (["edition b 1", "edition a x"], (1, 1)),
            (["edition b 2", "edition b 2"], (1, 2)), (["edition b 2", "edition b 1"], (1, 2)),
            (["edition b 0", "edition b 0"], (1, 2)), (["edition b 10", "edition b 9"], (1, 2)),
            (["edition b 1", "needs c 1", "edition b 1", "needs c 1"], (2, 2)),
            (["edition b 1", "edition b"], (1, 2)), (["edition b 1", "edition b 1 x"], (1, 2)),
            (["edition b 1", "edition b x"], (1, 2)), (["edition b 2", "edition c 1", "edition b 3"], (2, 1))))
        # Versions ascend as numbers, names as texts, and a version begins anew with another name.
        self.assertIsNone(wrong_place(rows_with("edition b 9", "edition b 10", "edition ba 1", "edition c 1")))

    def test_states_that_do_not_ascend(self):
        two = ["edition a 1", "edition b 1"]
        self.assert_wrong((
            ([*two, "state b left 1 1", "state a left 1 1"], (3, 1)),
            ([*two, "state b left 1 1", "state b left 1 1"], (3, 1)),
            ([*two, "state a left 1 1", "state a half 1 1"], (3, 1)),
            ([*two, "state a left 1 1", "state a x"], (3, 1))))
        self.assertIsNone(wrong_place(rows_with(*two, "state a left 1 1", "state b left 1 1")))

    def test_a_wrong_word_at_each_place(self):
        rows = [row.split(" ") for row in FULL.split("\n")]
        for row, words in enumerate(rows):
            for word in range(len(words) + 1):
                for put in ("?", ""):
                    for kept in (words[word:], words[word + 1:]):
                        changed = [*rows[:row], [*words[:word], put, *kept], *rows[row + 1:]]
                        text = "\n".join(" ".join(some) for some in changed)
                        self.assertEqual(wrong_place(text), (row, word))

    def test_texts_that_end_at_each_place(self):
        rows = [row.split(" ") for row in FULL.split("\n")]
        # The rows whose words can end at other places, too.
        free = {(1, 1), (1, 2), (2, 3), (4, 2)}
        for row, words in enumerate(rows):
            for many in range(1, len(words)):
                text = "\n".join(" ".join(some) for some in [*rows[:row], words[:many]])
                expected = None if (row, many) in free else (row, many)
                self.assertEqual(wrong_place(text), expected)


class LaterErrorsTest(unittest.TestCase):
    def test_a_version_of_zero(self):
        for text, part in (("edition a 0", "version"), ("edition a 1\nneeds b 0", "needs"),
                           ("edition a 1\nfirst b 1 c 0", "first"), ("edition a 0\nneeds a 0\nedition a 1", "version")):
            with self.subTest(text), self.assertRaises(InvalidEdition) as caught:
                parse_system(text)
            self.assertEqual(caught.exception.part, part)

    def test_a_package_that_needs_itself(self):
        for text, part in (("edition a 1\nneeds a 1", "needs"), ("edition a 1\nfirst a 1", "first"),
                           ("edition a 1\nagainst a", "against"),
                           # The first edition that is wrong counts.
                           ("edition a 1\nagainst a\nedition b 0", "against")):
            with self.subTest(text), self.assertRaises(InvalidEdition) as caught:
                parse_system(text)
            self.assertEqual(caught.exception.part, part)

    def test_too_many_editions_and_names(self):
        for rows, index in (([f"edition a {version}" for version in range(1, 14)], 12),
                            ([f"edition {name} 1" for name in "abcde"], 4)):
            with self.assertRaises(InvalidStore) as caught:
                parse_system("\n".join(rows))
            self.assertEqual(caught.exception.index, index)
        self.assertEqual(len(parse_system("\n".join(f"edition a {version}" for version in range(1, 13))).store), 12)

    def test_states_that_cannot_be(self):
        for text, package in (("edition a 1\nstate a ready 1 0", "a"), ("edition a 1\nstate a left 2 0", "a"),
                              ("edition a 1\nstate a left 1 2", "a"), ("edition a 1\nstate a half 0 0", "a"),
                              ("edition b 1\nstate a left 1 1", "a"), ("edition a 1\nstate b left 1 1", "b"),
                              ("edition a 1\nstate a half 2 0\nstate b left 1 1", "a")):
            with self.subTest(text), self.assertRaises(InvalidSystem) as caught:
                parse_system(text)
            self.assertEqual(caught.exception.package, package)

    def test_in_which_order_errors_come(self):
        many = [f"edition a {version}" for version in range(14)]
        self.assertEqual(wrong_place(rows_with(*many, "state b left 1 1", "x")), (15, 0))
        with self.assertRaises(InvalidEdition):
            parse_system(rows_with(*many, "state b left 1 1"))
        with self.assertRaises(InvalidStore):
            parse_system(rows_with(*many[1:], "state b left 1 1"))
        with self.assertRaises(InvalidSystem):
            parse_system(rows_with(*many[1:-1], "state b left 1 1"))
        # A wrong edition behind the fifth name comes before the store.
        with self.assertRaises(InvalidEdition):
            parse_system(rows_with(*[f"edition {name} 1" for name in "abcde"], "edition f 0"))


if __name__ == "__main__":
    unittest.main()

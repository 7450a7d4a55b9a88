"""Point 1: words, numbers, what ascends."""

import unittest

from halfsetup.checks import ascends, is_number, is_numeral, is_word


class ChecksTest(unittest.TestCase):
    def test_words_are_one_to_eight_letters_a_to_z(self):
        for text in ("a", "z", "db", "abcdefgh", "zzzzzzzz", "m"):
            with self.subTest(text):
                self.assertTrue(is_word(text))

    def test_other_texts_are_no_words(self):
        for text in ("", "abcdefghi", "A", "dB", "d1", "1", "d b", " db", "db\n", "d-b", "d_b",
                     "\u00e9", "\u00df", "`", "{"):
            with self.subTest(text):
                self.assertFalse(is_word(text))

    def test_what_is_no_text_is_no_word(self):
        for thing in (None, 1, b"db", ("d", "b"), ["d"]):
            with self.subTest(thing):
                self.assertFalse(is_word(thing))

    def test_numbers_have_a_range_with_both_ends(self):
        self.assertEqual([is_number(value, 1, 3) for value in range(5)], [False, True, True, True, False])
        self.assertFalse(is_number(-1, 0, 99))

    def test_booleans_are_no_numbers(self):
        self.assertFalse(is_number(True, 0, 9))
        self.assertFalse(is_number(False, 0, 9))

    def test_other_things_are_no_numbers(self):
        for thing in (None, "1", 1.0, (1,)):
            with self.subTest(thing):
                self.assertFalse(is_number(thing, 0, 9))

    def test_numerals_are_one_or_two_digits_without_needless_zeros(self):
        for text in ("0", "1", "9", "10", "99", "50"):
            with self.subTest(text):
                self.assertTrue(is_numeral(text))
        for text in ("", "00", "01", "09", "100", "-1", "+1", "1 ", " 1", "1.", "x", "1x", "1\n", "\u0661", "\u00b2"):
            with self.subTest(text):
                self.assertFalse(is_numeral(text))

    def test_what_ascends_has_nothing_twice(self):
        for values in ((), ("b",), ("a", "b"), ("a", "ab", "b"), (1, 2, 9)):
            with self.subTest(values):
                self.assertTrue(ascends(values))
        for values in (("a", "a"), ("b", "a"), ("a", "b", "b"), ("a", "c", "b"), (1, 2, 1)):
            with self.subTest(values):
                self.assertFalse(ascends(values))


if __name__ == "__main__":
    unittest.main()

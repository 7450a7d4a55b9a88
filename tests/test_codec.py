"""Point 29: the codes of systems."""

import random
import unittest

from halfsetup.codec import decode_system, encode_system
from halfsetup.editions import Edition
from halfsetup.errors import DecodeError, InvalidEdition, InvalidStore, InvalidSystem
from halfsetup.stores import Store
from halfsetup.systems import System
from tests.samples import random_rich_system

RICH = System(
    Store((Edition("lib", 10, scripts=("enter", "setup"), needs=(("db", 2), ("x", 99)), first=(("db", 1),),
                   against=("web", "www")),
           Edition("lib", 9, scripts=()), Edition("db", 2))),
    {"lib": ("half", 10, 9)})
NOTHING = [15, 0, 0, 0]


def checksum(values):
    told = 3
    for value in values:
        told = (13 * told + value) % 239
    return told


def closed(values):
    """Items with their checksum behind them."""
    return [*values, checksum(values)]


def wrong_offset(values):
    """The offset of DecodeError."""
    try:
        decode_system(values)
    except DecodeError as error:
        return error.offset
    return None


class EncodeTest(unittest.TestCase):
    def test_the_interface_examples(self):
        values = encode_system(System(Store((Edition("a", 1),)), {"a": ("ready", 1, 1)}))
        self.assertEqual([values, decode_system(values)["a"]],
                         [[72, 1, 1, 1, 1, 15, 0, 0, 0, 4, 1, 1, 136], ("ready", 1, 1)])
        self.assertEqual(wrong_offset([72, 1, 9]), 2)

    def test_all_kinds_of_items(self):
        expected = [
            72, 3,
            2, 4, 2, 2, 15, 0, 0, 0,
            3, 12, 9, 2, 9, 0, 0, 0, 0,
            3, 12, 9, 2, 10, 10, 2, 2, 4, 2, 2, 1, 24, 99, 1, 2, 4, 2, 1, 2, 3, 23, 5, 2, 3, 23, 23, 23,
            0, 2, 10, 9]
        self.assertEqual(encode_system(RICH), closed(expected))
        self.assertEqual(decode_system(closed(expected)), RICH)

    def test_scripts(self):
        for scripts, total in (((), 0), (("clean",), 1), (("enter",), 2), (("leave",), 4), (("setup",), 8),
                               (("clean", "leave"), 5), (("enter", "leave", "setup"), 14)):
            system = System(Store((Edition("z", 99, scripts=scripts),)), {})
            values = closed([72, 1, 1, 26, 99, total, 0, 0, 0, 0])
            self.assertEqual((encode_system(system), decode_system(values)), (values, system))

    def test_statuses(self):
        store = Store((Edition("a", 1), Edition("a", 2)))
        for place, state in enumerate((("absent", 0, 0), ("failed", 2, 1), ("half", 1, 0), ("left", 2, 2),
                                       ("ready", 1, 1), ("unpacked", 2, 0))):
            system = System(store, {"a": state})
            told = [place, *state[1:]] if place else [0]
            values = closed([72, 2, 1, 1, 1, *NOTHING, 1, 1, 2, *NOTHING, *told])
            self.assertEqual((encode_system(system), decode_system(values)), (values, system))

    def test_codes_lead_back_to_equal_systems(self):
        chooser = random.Random(31)
        for _ in range(300):
            system = random_rich_system(chooser)
            values = encode_system(system)
            self.assertEqual({type(value) for value in values}, {int})
            self.assertLessEqual(max(values), 255)
            self.assertEqual(values[-1], checksum(values[:-1]))
            self.assertEqual(decode_system(values), system)
            self.assertEqual(encode_system(decode_system(values)), values)

    def test_arguments_are_not_modified_and_lists_may_be(self):
        values = encode_system(RICH)
        encode_system(RICH).clear()
        before = list(values)
        decode_system(values)
        self.assertEqual((values, encode_system(RICH)), (before, before))
        system = decode_system(values)
        values.clear()
        self.assertEqual(system, RICH)


class DecodeErrorTest(unittest.TestCase):
    def assert_wrong(self, cases):
        for values, offset in cases:
            with self.subTest(values):
                self.assertEqual(wrong_offset(values), offset)

    def test_a_list_that_ends_at_each_place(self):
        values = encode_system(RICH)
        for many in range(len(values)):
            self.assertEqual(wrong_offset(values[:many]), many)
        self.assertIsNone(wrong_offset(values))

    def test_what_is_no_item_at_each_place(self):
        values = encode_system(RICH)
        for at in range(len(values)):
            for wrong in (-1, 256, 1000, True, False, "1", "", None, 1.0, (1,), [1]):
                self.assertEqual(wrong_offset([*values[:at], wrong, *values[at + 1:]]), at)
                # What stands behind is not looked at before.
                self.assertEqual(wrong_offset([*values[:at], wrong, "x", -1]), at)

    def test_the_first_items(self):
        self.assert_wrong((
            ([], 0), ([71], 0), ([73, 1], 0), ([72], 1), ([72, 0], 1), ([72, 13], 1), ([72, 12], 2), ([72, 255], 1)))

    def test_names(self):
        self.assert_wrong((
            ([72, 1, 0], 2), ([72, 1, 9], 2), ([72, 1, 8], 3), ([72, 1, 1, 0], 3), ([72, 1, 1, 27], 3),
            ([72, 1, 2, 26, 27], 4), ([72, 1, 2, 1, 1], 5), ([72, 1, 8, 1, 2, 3, 4, 5, 6, 7, 0], 10)))

    def test_versions_scripts_and_numbers_of_needs(self):
        begin = [72, 1, 1, 1]
        self.assert_wrong((
            ([*begin, 0], 4), ([*begin, 100], 4), ([*begin, 99, 16], 5), ([*begin, 99, 15], 6), ([*begin, 1, 0, 4], 6),
            ([*begin, 1, 0, 3], 7), ([*begin, 1, 0, 1, 0], 7), ([*begin, 1, 0, 1, 1, 2, 0], 9),
            ([*begin, 1, 0, 1, 1, 2, 100], 9), ([*begin, 1, 0, 0, 4], 7), ([*begin, 1, 0, 0, 1, 1, 2, 0], 10),
            ([*begin, 1, 0, 0, 0, 4], 8), ([*begin, 1, 0, 0, 0, 3, 1, 2, 1, 3, 9], 13)))

    def test_states(self):
        begin = [72, 1, 1, 1, 1, *NOTHING]
        self.assert_wrong((
            ([*begin, 6], 9), ([*begin, 4, 0], 10), ([*begin, 4, 100], 10), ([*begin, 4, 1, 100], 11),
            ([*begin, 4, 1], 11), ([*begin, 2, 1, 0], 12)))

    def test_there_is_a_state_for_each_name(self):
        begin = [72, 3, 1, 1, 1, *NOTHING, 1, 1, 2, *NOTHING, 1, 2, 1, *NOTHING]
        self.assertEqual(decode_system(closed([*begin, 0, 5, 1, 0]))["b"], ("unpacked", 1, 0))
        self.assertEqual(wrong_offset([*begin, 0]), len(begin) + 1)
        # Items that would be a third state are no checksum.
        self.assertEqual(wrong_offset(closed([*begin, 0, 0, 0])), len(begin) + 2)

    def test_editions_that_do_not_ascend(self):
        for first, second in (((1, 2, 1), (1, 1, 2)), ((1, 2, 2), (1, 2, 2)), ((1, 2, 3), (1, 2, 2)),
                              ((2, 1, 2, 5), (1, 1, 9))):
            values = [72, 2, *first, *NOTHING, *second]
            # The offset is that of the version, even if the name is too little.
            self.assertEqual(wrong_offset([*values, *NOTHING]), len(values) - 1)
            self.assertEqual(wrong_offset(values), len(values) - 1)
        # Each edition is compared with the one right before it.
        values = [72, 3, 1, 1, 1, *NOTHING, 1, 3, 1, *NOTHING, 1, 2, 1]
        self.assertEqual(wrong_offset([*values, *NOTHING]), len(values) - 1)
        # A version that is none is wrong at the same place, and a letter that is none before it.
        self.assertEqual(wrong_offset([72, 2, 1, 2, 1, *NOTHING, 1, 1, 0]), 11)
        self.assertEqual(wrong_offset([72, 2, 1, 2, 1, *NOTHING, 1, 27, 1]), 10)
        for first, second in (((1, 2, 9), (1, 2, 10)), ((1, 2, 9), (2, 2, 1, 1)), ((1, 2, 9), (1, 3, 1))):
            names = 1 if first[:2] == second[:2] else 2
            self.assertIsNone(wrong_offset(closed([72, 2, *first, *NOTHING, *second, *NOTHING, *[0] * names])))

    def test_a_wrong_checksum_and_items_behind_it(self):
        values = encode_system(RICH)
        last = len(values) - 1
        for wrong in range(256):
            if wrong != values[last]:
                self.assertEqual(wrong_offset([*values[:last], wrong]), last)
                self.assertEqual(wrong_offset([*values[:last], wrong, 0]), last)
        for more in ([0], [values[last]], ["x"], [True, -1], values):
            self.assertEqual(wrong_offset([*values, *more]), last + 1)

    def test_each_changed_item_changes_the_checksum(self):
        values = encode_system(RICH)
        for at in range(len(values)):
            changed = [*values[:at], (values[at] + 1) % 256, *values[at + 1:]]
            self.assertIsNotNone(wrong_offset(changed))


class LaterErrorsTest(unittest.TestCase):
    def test_invalid_editions(self):
        for rest, part in (([15, 1, 1, 1, 1, 0, 0], "needs"), ([15, 2, 1, 3, 1, 1, 2, 1, 0, 0], "needs"),
                           ([15, 2, 1, 2, 1, 1, 2, 1, 0, 0], "needs"), ([15, 0, 1, 1, 1, 1, 0], "first"),
                           ([15, 0, 0, 1, 1, 1], "against"), ([15, 0, 0, 2, 1, 3, 1, 2], "against"),
                           ([15, 0, 1, 1, 1, 1, 1, 1, 1], "first")):
            with self.subTest(rest), self.assertRaises(InvalidEdition) as caught:
                decode_system(closed([72, 1, 1, 1, 1, *rest, 0]))
            self.assertEqual(caught.exception.part, part)

    def test_five_names(self):
        editions = [item for letter in range(1, 6) for item in (1, letter, 1, *NOTHING)]
        with self.assertRaises(InvalidStore) as caught:
            decode_system(closed([72, 5, *editions, 0, 0, 0, 0, 0]))
        self.assertEqual(caught.exception.index, 4)

    def test_states_that_cannot_be(self):
        editions = [1, 1, 1, *NOTHING, 1, 2, 2, *NOTHING]
        for states, package in (([4, 2, 2, 0], "a"), ([0, 4, 2, 0], "b"), ([0, 1, 2, 1], "b"), ([2, 9, 0, 2, 9, 0], "a")):
            with self.subTest(states), self.assertRaises(InvalidSystem) as caught:
                decode_system(closed([72, 2, *editions, *states]))
            self.assertEqual(caught.exception.package, package)

    def test_in_which_order_errors_come(self):
        # Each edition is against itself, there are five names, and no state can be.
        def code(many, against):
            part = [1] if against else [0]
            editions = [item for letter in range(1, many + 1)
                        for item in (1, letter, 1, 15, 0, 0, *part, *([1, letter] if against else []))]
            return [72, many, *editions, *[4, 9, 9] * many]
        self.assertEqual(wrong_offset([*code(5, True), 300]), len(code(5, True)))
        for values, kind in ((code(5, True), InvalidEdition), (code(5, False), InvalidStore), (code(4, False), InvalidSystem)):
            with self.assertRaises(kind):
                decode_system(closed(values))


if __name__ == "__main__":
    unittest.main()

"""Point 20: settings files."""

import itertools
import random
import unittest

from halfsetup.errors import InvalidAnswer, InvalidNumber
from halfsetup.settings import fewest_asked, settled, settled_all

BAD_CONTENTS = (-1, 100, True, False, None, "1")


def told_content(noted, present, new, answer):
    """What point 20 says of one setup, sentence by sentence."""
    if new == noted:
        return (present, False)
    if present == noted:
        return (new, False)
    if present == new:
        return (present, False)
    return ({"keep": present, "take": new}[answer], True)


def questions(contents, edits, chosen, answers):
    """How many questions there are if only the chosen versions are set up, and answered so, one after another."""
    noted = present = count = 0
    for at, new in enumerate(contents):
        present = edits.get(at, present)
        if at in chosen:
            present, asked = told_content(noted, present, new, answers[count])
            noted = new
            count += asked
    return count


def tried_fewest(contents, edits):
    """What `fewest_asked` returns, by trying all versions and all answers."""
    if not contents:
        return (0, ())
    found = []
    *others, last = range(len(contents))
    for length in range(len(contents)):
        for some in itertools.combinations(others, length):
            chosen = (*some, last)
            for answers in itertools.product(("keep", "take"), repeat=len(chosen)):
                found.append((questions(contents, edits, chosen, (*answers, "keep")), len(chosen), chosen))
    number, length, chosen = min(found)
    return (number, chosen)


class SettledTest(unittest.TestCase):
    def test_the_interface_examples(self):
        self.assertEqual(
            [settled(1, 1, 2, "keep"), settled(1, 3, 2, "keep"), settled_all([1, 2, 2, 3], {1: 7}, "keep"),
             fewest_asked([1, 2, 2, 3], {1: 7})],
            [(2, False), (3, True), (7, [1, 3]), (1, (3,))])
        with self.assertRaises(InvalidNumber):
            settled(1, 1, 0, "keep")

    def test_a_new_content_that_is_the_noted_one(self):
        for answer in ("keep", "take"):
            for present in (0, 1, 3, 99):
                self.assertEqual(settled(3, present, 3, answer), (present, False))

    def test_a_present_content_that_is_the_noted_one(self):
        for answer in ("keep", "take"):
            self.assertEqual(settled(3, 3, 4, answer), (4, False))
            self.assertEqual(settled(0, 0, 4, answer), (4, False))

    def test_a_present_content_that_is_the_new_one(self):
        for answer in ("keep", "take"):
            self.assertEqual(settled(3, 4, 4, answer), (4, False))
            self.assertEqual(settled(0, 4, 4, answer), (4, False))

    def test_all_three_contents_are_one(self):
        self.assertEqual(settled(5, 5, 5, "take"), (5, False))

    def test_in_all_other_cases_it_is_asked(self):
        for noted, present, new in ((1, 2, 3), (0, 2, 3), (1, 0, 3), (99, 0, 1), (0, 99, 1)):
            self.assertEqual(settled(noted, present, new, "keep"), (present, True))
            self.assertEqual(settled(noted, present, new, "take"), (new, True))

    def test_all_contents_of_a_small_range(self):
        for noted, present, new in itertools.product(range(4), range(4), range(1, 4)):
            for answer in ("keep", "take"):
                found = settled(noted, present, new, answer)
                self.assertEqual(found, told_content(noted, present, new, answer))
                self.assertIs(type(found[1]), bool)

    def test_contents_at_the_ends_of_their_ranges(self):
        self.assertEqual(settled(99, 99, 1, "keep"), (1, False))
        self.assertEqual(settled(0, 0, 99, "keep"), (99, False))

    def test_contents_out_of_range(self):
        for bad in BAD_CONTENTS:
            for contents in ((bad, 1, 1), (1, bad, 1), (1, 1, bad)):
                with self.subTest(contents), self.assertRaises(InvalidNumber):
                    settled(*contents, "keep")
        with self.assertRaises(InvalidNumber):
            settled(0, 0, 0, "keep")

    def test_wrong_answers_also_if_nothing_is_asked(self):
        for answer in ("", "Keep", "keep ", "yes", None):
            for contents in ((1, 2, 3), (1, 1, 1)):
                with self.subTest((answer, contents)), self.assertRaises(InvalidAnswer):
                    settled(*contents, answer)

    def test_a_wrong_content_comes_before_a_wrong_answer(self):
        for contents in ((100, 1, 1), (1, 100, 1), (1, 1, 100)):
            with self.assertRaises(InvalidNumber):
                settled(*contents, "no")


class SettledAllTest(unittest.TestCase):
    def test_without_contents(self):
        self.assertEqual([settled_all([], {}, "keep"), settled_all([], {}, "take")], [(0, []), (0, [])])

    def test_without_edits_nothing_is_asked(self):
        for answer in ("keep", "take"):
            self.assertEqual(settled_all([1, 2, 2, 1, 99], {}, answer), (99, []))

    def test_an_edit_is_made_before_its_version_is_set_up(self):
        self.assertEqual(settled_all([1], {0: 5}, "keep"), (5, [0]))
        self.assertEqual(settled_all([1], {0: 5}, "take"), (1, [0]))
        self.assertEqual(settled_all([1, 2], {1: 2}, "keep"), (2, []))
        self.assertEqual(settled_all([1, 2], {0: 2}, "keep"), (2, [0]))

    def test_an_edit_of_a_version_that_brings_nothing_new(self):
        self.assertEqual(settled_all([1, 1], {1: 7}, "take"), (7, []))
        self.assertEqual(settled_all([1, 1, 2], {1: 7}, "take"), (2, [2]))
        self.assertEqual(settled_all([1, 1, 2], {1: 7}, "keep"), (7, [2]))

    def test_a_file_that_is_taken_away(self):
        self.assertEqual(settled_all([1, 2, 3], {1: 0}, "keep"), (0, [1, 2]))
        self.assertEqual(settled_all([1, 2, 3], {1: 0}, "take"), (3, [1]))
        self.assertEqual(settled_all([1, 2], {0: 0}, "keep"), (2, []))

    def test_the_new_content_is_noted_in_each_case(self):
        # Kept, 7 is not the noted content 2, so it is asked once more; taken, it is not.
        self.assertEqual(settled_all([1, 2, 3], {1: 7}, "keep"), (7, [1, 2]))
        self.assertEqual(settled_all([1, 2, 3], {1: 7}, "take"), (3, [1]))
        self.assertEqual(settled_all([1, 2, 7], {1: 7}, "keep"), (7, [1]))

    def test_as_one_setup_after_another(self):
        chooser = random.Random(20)
        for _ in range(300):
            contents = [chooser.randint(1, 3) for _ in range(chooser.randint(0, 12))]
            edits = {at: chooser.randint(0, 3) for at in range(len(contents)) if chooser.random() < 0.4}
            answer = chooser.choice(("keep", "take"))
            noted, present, asked_at = 0, 0, []
            for at, new in enumerate(contents):
                present, asked = told_content(noted, edits.get(at, present), new, answer)
                noted = new
                asked_at += [at] * asked
            self.assertEqual(settled_all(contents, edits, answer), (present, asked_at))

    def test_twelve_contents_and_thirteen(self):
        self.assertEqual(settled_all([1, 2] * 6, {11: 99}, "keep"), (99, [11]))
        for call in (lambda: settled_all([1] * 13, {}, "keep"), lambda: fewest_asked([1] * 13, {})):
            with self.assertRaises(InvalidNumber):
                call()

    def test_wrong_contents_and_edits(self):
        for contents, edits in [([bad], {}) for bad in (0, *BAD_CONTENTS)] + [
                ([1, 2], {1: bad}) for bad in BAD_CONTENTS] + [
                ([1, 2], {bad: 1}) for bad in (-1, 2, True, False, "0")] + [([], {0: 1}), ([1, 2, 100], {0: 1})]:
            with self.subTest((contents, edits)):
                with self.assertRaises(InvalidNumber):
                    settled_all(contents, edits, "keep")
                with self.assertRaises(InvalidNumber):
                    fewest_asked(contents, edits)
        self.assertEqual(settled_all([1, 99], {0: 0, 1: 99}, "keep"), (99, []))

    def test_wrong_answers(self):
        for contents in ([], [1], [1, 2]):
            with self.assertRaises(InvalidAnswer):
                settled_all(contents, {}, "ask")
        # A wrong number comes first.
        for contents, edits in (([0], {}), ([1], {1: 1}), ([1], {0: 100}), ([1] * 13, {})):
            with self.assertRaises(InvalidNumber):
                settled_all(contents, edits, "ask")

    def test_arguments_are_not_modified_and_lists_may_be(self):
        contents, edits = [1, 2, 3], {1: 7}
        settled_all(contents, edits, "keep")[1].clear()
        fewest_asked(contents, edits)
        self.assertEqual((contents, edits), ([1, 2, 3], {1: 7}))
        self.assertEqual(settled_all(contents, edits, "keep"), (7, [1, 2]))


class FewestAskedTest(unittest.TestCase):
    def test_without_contents(self):
        self.assertEqual(fewest_asked([], {}), (0, ()))

    def test_the_last_version_is_not_left_out(self):
        self.assertEqual(fewest_asked([5], {}), (0, (0,)))
        self.assertEqual(fewest_asked([5], {0: 6}), (1, (0,)))
        self.assertEqual(fewest_asked([5, 6, 7], {}), (0, (2,)))

    def test_edits_of_versions_that_are_left_out_are_made(self):
        self.assertEqual(fewest_asked([1, 2], {0: 7}), (1, (1,)))
        # Only the second version notes the content that stands there before the last one comes.
        self.assertEqual(fewest_asked([1, 7, 2], {0: 7}), (0, (1, 2)))

    def test_a_version_that_brings_the_edited_content(self):
        self.assertEqual(fewest_asked([1, 2, 3], {1: 2}), (0, (1, 2)))
        self.assertEqual(fewest_asked([1, 2, 2], {1: 2}), (0, (2,)))

    def test_of_several_shortest_lists_the_first_one(self):
        self.assertEqual(fewest_asked([7, 7, 7, 2], {0: 7}), (0, (0, 3)))
        self.assertEqual(fewest_asked([1, 7, 7, 2], {0: 7}), (0, (1, 3)))

    def test_an_answer_that_saves_a_later_question(self):
        # Each of the two edits is asked for once; then the answer must be to take.
        self.assertEqual(fewest_asked([1, 2, 3], {0: 9, 2: 8}), (1, (2,)))
        self.assertEqual(settled_all([2, 3], {0: 9}, "keep")[1], [0, 1])
        self.assertEqual(fewest_asked([2, 3], {0: 9}), (1, (1,)))

    def test_versions_that_note_what_is_kept(self):
        # The content 4 is asked for only if nothing notes it before it is edited away.
        self.assertEqual(fewest_asked([4, 5, 4], {1: 6}), (0, (0, 2)))

    def test_twelve_versions(self):
        self.assertEqual(fewest_asked(list(range(1, 13)), {at: 50 + at for at in range(12)}), (1, (11,)))
        self.assertEqual(fewest_asked(list(range(1, 13)), {3: 9}), (0, (8, 11)))

    def test_trying_all_versions_and_answers(self):
        chooser = random.Random(21)
        numbers, lengths = set(), set()
        for _ in range(500):
            most = chooser.choice((2, 3, 4))
            contents = [chooser.randint(1, most) for _ in range(chooser.randint(0, 6))]
            edits = {at: chooser.randint(0, most + 1) for at in range(len(contents)) if chooser.random() < 0.5}
            found = fewest_asked(contents, edits)
            numbers.add(found[0])
            lengths.add(len(found[1]))
            with self.subTest((contents, edits)):
                self.assertEqual(found, tried_fewest(contents, edits))
        self.assertLessEqual({0, 1}, numbers)
        self.assertLessEqual({0, 1, 2, 3}, lengths)


if __name__ == "__main__":
    unittest.main()

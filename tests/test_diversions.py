"""Point 19: files that are put at other places."""

import itertools
import random
import unittest

from halfsetup.diversions import crowded, least_diversions, placed
from halfsetup.editions import Edition
from halfsetup.errors import InvalidDiversions, UnknownEdition
from halfsetup.layouts import Layout, rivals
from halfsetup.stores import Store
from tests.samples import keys_of, paths_in, random_layout

A, NEW_A, B, C, D = ("a", 1), ("a", 2), ("b", 1), ("c", 1), ("d", 1)
STORE = Store((Edition("a", 1), Edition("a", 2), Edition("b", 1), Edition("c", 1), Edition("d", 1)))


def made_layout(paths, takes=None):
    """A layout in which editions have the paths of a text."""
    return Layout(STORE, {key: tuple((path, 1) for path in paths[key]) for key in paths}, takes or {})


class CheckTest(unittest.TestCase):
    def setUp(self):
        self.layout = made_layout({A: "pq", B: "p", C: "r"})

    def assert_wrong(self, diversions, path):
        for key in (A, ("x", 1)):
            with self.assertRaises(InvalidDiversions) as caught:
                placed(self.layout, diversions, key)
            self.assertEqual(caught.exception.path, path)
        with self.assertRaises(InvalidDiversions) as caught:
            crowded(self.layout, diversions)
        self.assertEqual(caught.exception.path, path)

    def test_diversions_that_can_be(self):
        for diversions in ({}, {"p": ("a", "x")}, {"x": ("d", "y")}, {"p": ("a", "x"), "q": ("a", "y")},
                           {"p": ("d", "x"), "z": ("b", "y")}):
            placed(self.layout, diversions, A)
            crowded(self.layout, diversions)

    def test_a_name_that_the_store_does_not_have(self):
        self.assert_wrong({"p": ("x", "y")}, "p")
        self.assert_wrong({"z": ("", "y")}, "z")

    def test_an_other_path_that_is_a_path_of_an_edition(self):
        self.assert_wrong({"p": ("a", "q")}, "p")
        self.assert_wrong({"z": ("d", "r")}, "z")

    def test_an_other_path_that_is_a_path_of_the_dict(self):
        self.assert_wrong({"p": ("a", "z"), "z": ("b", "y")}, "p")
        self.assert_wrong({"y": ("a", "z"), "z": ("b", "x")}, "y")
        self.assert_wrong({"z": ("a", "z")}, "z")
        self.assert_wrong({"a": ("a", "x"), "z": ("b", "a")}, "z")

    def test_an_other_path_that_is_the_other_path_of_a_lesser_path(self):
        self.assert_wrong({"p": ("a", "x"), "q": ("a", "x")}, "q")
        self.assert_wrong({"r": ("a", "x"), "q": ("b", "x"), "p": ("c", "y")}, "r")

    def test_the_least_path_is_told(self):
        self.assert_wrong({"z": ("x", "y"), "q": ("x", "y"), "p": ("a", "y")}, "q")
        self.assert_wrong({"r": ("a", "q"), "q": ("a", "r"), "p": ("a", "x")}, "q")
        self.assert_wrong({"q": ("x", "u"), "p": ("a", "q")}, "p")

    def test_other_paths_are_not_checked_to_be_words(self):
        self.assertEqual(placed(self.layout, {"p": ("b", "A path 1")}, A), ("A path 1", "q"))

    def test_editions_that_are_none(self):
        for key in (("a", 3), ("x", 1), ("b", 2)):
            for diversions in ({}, {"p": ("a", "x")}):
                with self.assertRaises(UnknownEdition):
                    placed(self.layout, diversions, key)


class PlacedTest(unittest.TestCase):
    def test_the_interface_examples(self):
        store = Store((Edition("db", 1), Edition("lib", 1)))
        layout = Layout(store, {("db", 1): (("conf", 1), ("run", 2)), ("lib", 1): (("run", 5),)}, {})
        put = {"run": ("db", "runold")}
        self.assertEqual(
            [placed(layout, put, ("lib", 1)), crowded(layout, put), least_diversions(layout, (("db", 1), ("lib", 1)))],
            [("runold",), [], [("run", "db")]])
        layout = Layout(Store((Edition("db", 1),)), {("db", 1): (("conf", 1),)}, {})
        with self.assertRaises(InvalidDiversions) as caught:
            crowded(layout, {"run": ("db", "conf")})
        self.assertEqual(caught.exception.path, "run")

    def test_places(self):
        layout = made_layout({A: "pqr", NEW_A: "q", B: "pq"})
        diversions = {"p": ("a", "z"), "q": ("b", "a"), "s": ("a", "y")}
        self.assertEqual(placed(layout, {}, A), ("p", "q", "r"))
        self.assertEqual(placed(layout, diversions, A), ("a", "p", "r"))
        self.assertEqual(placed(layout, diversions, NEW_A), ("a",))
        self.assertEqual(placed(layout, diversions, B), ("q", "z"))
        self.assertEqual(placed(layout, diversions, C), ())

    def test_the_name_of_a_third_package_diverts_all(self):
        layout = made_layout({A: "p", B: "p", C: ""})
        self.assertEqual([placed(layout, {"p": ("c", "x")}, key) for key in (A, B, C)], [("x",), ("x",), ()])

    def test_arguments_are_not_modified(self):
        layout, diversions = made_layout({A: "pq", B: "pq"}), {"q": ("b", "x"), "p": ("a", "y")}
        for _ in range(2):
            self.assertEqual(placed(layout, diversions, A), ("p", "x"))
            crowded(layout, diversions).append(1)
            self.assertEqual(crowded(layout, diversions), [])
        self.assertEqual(diversions, {"q": ("b", "x"), "p": ("a", "y")})
        self.assertEqual(layout, made_layout({A: "pq", B: "pq"}))


class CrowdedTest(unittest.TestCase):
    def test_no_diversions(self):
        layout = made_layout({A: "pq", NEW_A: "p", B: "pq", C: "q"})
        self.assertEqual(crowded(layout, {}), rivals(layout))
        self.assertEqual(len(crowded(layout, {})), 5)

    def test_the_others_are_crowded_at_the_other_path(self):
        layout = made_layout({A: "p", B: "p", C: "p"})
        self.assertEqual(crowded(layout, {"p": ("a", "x")}), [(B, C, "x")])
        self.assertEqual(crowded(layout, {"p": ("b", "x")}), [(A, C, "x")])
        self.assertEqual(crowded(layout, {"p": ("d", "x")}), [(A, B, "x"), (A, C, "x"), (B, C, "x")])

    def test_tuples_ascend_by_places(self):
        layout = made_layout({A: "pq", B: "pq"})
        self.assertEqual(crowded(layout, {"p": ("c", "z")}), [(A, B, "q"), (A, B, "z")])

    def test_editions_that_take_files_over_are_left_out(self):
        paths = {A: "p", NEW_A: "p", B: "p", C: "p"}
        self.assertEqual(crowded(made_layout(paths, {A: ("b",), C: ("b",)}), {}),
                         [(A, C, "p"), (NEW_A, B, "p"), (NEW_A, C, "p")])
        self.assertEqual(crowded(made_layout(paths, {B: ("c",)}), {"p": ("a", "x")}), [])

    def test_all_pairs(self):
        chooser = random.Random(20)
        for _ in range(200):
            layout = random_layout(chooser, STORE)
            paths = chooser.sample("pqrst", chooser.randint(0, 4))
            diversions = {path: (chooser.choice("abcd"), "other" + path) for path in paths}
            expected = []
            for key, other in itertools.combinations(keys_of(STORE), 2):
                taking = other[0] in layout.takes.get(key, ()) or key[0] in layout.takes.get(other, ())
                if key[0] != other[0] and not taking:
                    both = set(placed(layout, diversions, key)) & set(placed(layout, diversions, other))
                    expected += [(key, other, place) for place in both]
            self.assertEqual(crowded(layout, diversions), sorted(expected))


class LeastTest(unittest.TestCase):
    def test_no_keys_and_one_key(self):
        layout = made_layout({A: "pq", B: "p"})
        self.assertEqual(least_diversions(layout, ()), [])
        self.assertEqual(least_diversions(layout, (A,)), [])
        self.assertEqual(least_diversions(layout, (A, C)), [])

    def test_two_have_a_path(self):
        layout = made_layout({A: "pqs", B: "qr", C: "ps"})
        self.assertEqual(least_diversions(layout, (A, B)), [("q", "a")])
        self.assertEqual(least_diversions(layout, (A, C)), [("p", "a"), ("s", "a")])
        self.assertEqual(least_diversions(layout, (A, B, C)), [("p", "a"), ("q", "a"), ("s", "a")])
        self.assertEqual(least_diversions(layout, (B, C)), [])
        layout = made_layout({B: "q", C: "pq", D: "p"})
        self.assertEqual(least_diversions(layout, (A, B, C, D)), [("p", "c"), ("q", "b")])

    def test_more_than_two_have_a_path(self):
        layout = made_layout({A: "pq", NEW_A: "q", B: "p", C: "p", D: "pq"})
        self.assertIsNone(least_diversions(layout, (A, B, C)))
        self.assertIsNone(least_diversions(layout, (A, B, C, D)))
        self.assertEqual(least_diversions(layout, (NEW_A, B, C)), [("p", "b")])

    def test_taking_over_does_not_matter(self):
        self.assertEqual(least_diversions(made_layout({A: "p", B: "p"}, {A: ("b",), B: ("a",)}), (A, B)), [("p", "a")])
        self.assertIsNone(least_diversions(made_layout({A: "p", B: "p", C: "p"}, {A: ("b", "c")}), (A, B, C)))

    def test_keys_that_are_none(self):
        layout = made_layout({A: "p", B: "p", C: "p"})
        for keys in ((("a", 9),), (A, ("x", 1)), (A, B, C, ("d", 2)), (("a", 9), B, ("x", 1))):
            with self.assertRaises(UnknownEdition):
                least_diversions(layout, keys)

    def test_returned_lists_may_be_modified(self):
        layout = made_layout({A: "p", B: "p"})
        least_diversions(layout, (A, B)).clear()
        self.assertEqual(least_diversions(layout, (A, B)), [("p", "a")])

    def test_all_sets(self):
        chooser = random.Random(21)
        lengths = set()
        for _ in range(150):
            layout = random_layout(chooser, STORE, "pqr")
            keys = tuple(key for key in (chooser.choice((A, NEW_A)), B, C, D) if chooser.random() < 0.7)
            found = least_diversions(layout, keys)
            lengths.add(found if found is None else len(found))
            self.assertEqual(found, least_tried(layout, keys))
        self.assertEqual(lengths, {None, 0, 1, 2, 3})


def is_apart(layout, keys, chosen):
    """Whether no two editions are put at one place, each path being diverted to one of its own."""
    diversions = {path: (name, "other" + path) for path, name in chosen}
    places = [place for key in keys for place in placed(layout, diversions, key)]
    return len(places) == len(set(places))


def least_tried(layout, keys):
    """The fewest diversions, by trying all sets of them."""
    paths = sorted({path for key in keys for path in paths_in(layout, key)})
    for count in range(len(paths) + 1):
        fitting = [list(zip(some, names)) for some in itertools.combinations(paths, count)
                   for names in itertools.product("abcd", repeat=count)]
        fitting = [chosen for chosen in fitting if is_apart(layout, keys, chosen)]
        if fitting:
            return min(fitting)
    return None


if __name__ == "__main__":
    unittest.main()

"""Point 17: which files editions have, and which of them can be together."""

import itertools
import random
import unittest

from halfsetup.editions import Edition
from halfsetup.errors import InvalidLayout
from halfsetup.layouts import Layout, most_together, rivals
from halfsetup.stores import Store
from tests.samples import keys_of, paths_in, random_layout

SIX = tuple((path, 1) for path in "abcdef")
STORE = Store((Edition("db", 1), Edition("db", 2), Edition("lib", 1)))
DB, NEW_DB, LIB = ("db", 1), ("db", 2), ("lib", 1)


def named_store(*keys):
    return Store(tuple(Edition(name, version) for name, version in keys))


class LayoutTest(unittest.TestCase):
    def assert_wrong(self, files, takes, part, key):
        with self.assertRaises(InvalidLayout) as caught:
            Layout(STORE, files, takes)
        self.assertEqual((caught.exception.part, caught.exception.key), (part, key))

    def test_the_interface_examples(self):
        layout = Layout(STORE, {DB: (("conf", 1), ("run", 2)), LIB: (("run", 5),)}, {})
        self.assertEqual([rivals(layout), most_together(layout)],
                         [[(("db", 1), ("lib", 1), "run")], (("db", 2), ("lib", 1))])
        with self.assertRaises(InvalidLayout) as caught:
            Layout(Store((Edition("db", 1),)), {("db", 3): ()}, {})
        self.assertEqual((caught.exception.part, caught.exception.key), ("files", ("db", 3)))

    def test_the_properties(self):
        files = {LIB: (("run", 99),), DB: ()}
        takes = {LIB: (), DB: ("lib",)}
        layout = Layout(STORE, files, takes)
        self.assertEqual(layout.store, STORE)
        self.assertEqual(list(layout.files.items()), [(DB, ()), (LIB, (("run", 99),))])
        self.assertEqual(list(layout.takes.items()), [(DB, ("lib",)), (LIB, ())])
        self.assertEqual((list(files), list(takes)), ([LIB, DB], [LIB, DB]))

    def test_keys_ascend_by_versions_as_numbers(self):
        store = named_store(("b", 10), ("b", 9), ("a", 11))
        layout = Layout(store, {("b", 10): (), ("b", 9): (), ("a", 11): ()}, {("b", 10): (), ("a", 11): ()})
        self.assertEqual(list(layout.files), [("a", 11), ("b", 9), ("b", 10)])
        self.assertEqual(list(layout.takes), [("a", 11), ("b", 10)])

    def test_nothing_that_can_be_changed_is_kept(self):
        files, takes = {DB: (("run", 1),)}, {DB: ("lib",)}
        layout = Layout(STORE, files, takes)
        files.clear()
        takes[LIB] = ("db",)
        layout.files.clear()
        layout.takes[LIB] = ()
        self.assertEqual((layout.files, layout.takes), ({DB: (("run", 1),)}, {DB: ("lib",)}))

    def test_equality(self):
        files, takes = {DB: (("run", 1),), LIB: ()}, {DB: ("lib",), NEW_DB: ()}
        layout = Layout(STORE, files, takes)
        same = Layout(Store((Edition("lib", 1), Edition("db", 2), Edition("db", 1))),
                      {LIB: (), DB: (("run", 1),)}, {NEW_DB: (), DB: ("lib",)})
        self.assertTrue(layout == same)
        self.assertFalse(layout != same)
        others = [Layout(STORE, {**files, DB: (("run", 2),)}, takes), Layout(STORE, {DB: files[DB]}, takes),
                  Layout(STORE, {**files, NEW_DB: ()}, takes), Layout(STORE, files, {DB: ("lib",)}),
                  Layout(STORE, files, {**takes, LIB: ()}), Layout(STORE, files, {**takes, DB: ()}),
                  Layout(named_store(DB, NEW_DB, LIB, ("web", 1)), files, takes)]
        for other in others:
            self.assertFalse(layout == other)
            self.assertTrue(layout != other)
        self.assertFalse(layout == files)

    def test_no_to_six_files(self):
        for count in range(7):
            self.assertEqual(Layout(STORE, {DB: SIX[:count]}, {}).files, {DB: SIX[:count]})
        self.assert_wrong({DB: (*SIX, ("g", 1))}, {}, "files", DB)

    def test_contents(self):
        for content in (1, 2, 98, 99):
            Layout(STORE, {DB: (("run", content),)}, {})
        for content in (0, 100, -1, 1000):
            self.assert_wrong({DB: (("run", content),)}, {}, "files", DB)
            self.assert_wrong({DB: (("conf", 1), ("run", content))}, {}, "files", DB)

    def test_paths(self):
        for path in ("a", "zzzzzzzz"):
            Layout(STORE, {DB: ((path, 1),)}, {})
        for path in ("", "abcdefghi", "Run", "r1", "a b", "a/b"):
            self.assert_wrong({DB: ((path, 1),)}, {}, "files", DB)
        # These do not ascend, or stand twice.
        for paths in ("ba", "aa", "acb", "abb", "abcdfe"):
            self.assert_wrong({DB: tuple((path, 1) for path in paths)}, {}, "files", DB)
        self.assert_wrong({DB: (("a", 1), ("a", 2))}, {}, "files", DB)
        self.assert_wrong({DB: (("a", 2), ("a", 1))}, {}, "files", DB)

    def test_files_that_are_no_such_tuples(self):
        for files in ((("run",),), (("run", 1, 1),), ((),), ("run",), (["run", 1],), [("run", 1)]):
            self.assert_wrong({DB: files}, {}, "files", DB)
        for content in (True, "1", None):
            self.assert_wrong({DB: (("run", content),)}, {}, "files", DB)
        self.assert_wrong({}, {DB: ["lib"]}, "takes", DB)

    def test_two_editions_may_have_one_path(self):
        Layout(STORE, {DB: (("run", 1),), NEW_DB: (("run", 1),), LIB: (("run", 1),)}, {})

    def test_takes(self):
        store = named_store(("a", 1), ("b", 1), ("c", 1), ("d", 1))
        for names in ((), ("a",), ("d",), ("a", "c"), ("a", "c", "d")):
            self.assertEqual(Layout(store, {}, {("b", 1): names}).takes, {("b", 1): names})
        # The own package, ones that the store does not have, and names that do not ascend or stand twice.
        for names in (("b",), ("a", "b"), ("e",), ("a", "x"), ("",), ("c", "a"), ("a", "a"), ("a", "d", "c")):
            with self.subTest(names), self.assertRaises(InvalidLayout) as caught:
                Layout(store, {}, {("b", 1): names})
            self.assertEqual((caught.exception.part, caught.exception.key), ("takes", ("b", 1)))

    def test_keys_that_the_store_does_not_have(self):
        for key in (("db", 3), ("web", 1), ("lib", 2)):
            self.assert_wrong({key: ()}, {}, "files", key)
            self.assert_wrong({key: (("run", 1),)}, {}, "files", key)
            self.assert_wrong({}, {key: ()}, "takes", key)

    def test_files_come_before_takes(self):
        self.assert_wrong({LIB: (("run", 0),)}, {DB: ("db",)}, "files", LIB)
        self.assert_wrong({("web", 1): ()}, {("a", 1): ()}, "files", ("web", 1))
        self.assert_wrong({LIB: (("run", 1),)}, {DB: ("db",)}, "takes", DB)

    def test_the_least_key_is_told(self):
        bad = (("run", 0),)
        self.assert_wrong({LIB: bad, NEW_DB: bad, DB: bad}, {}, "files", DB)
        self.assert_wrong({LIB: bad, NEW_DB: bad, DB: ()}, {}, "files", NEW_DB)
        self.assert_wrong({("web", 1): (), LIB: bad}, {}, "files", LIB)
        self.assert_wrong({("db", 10): (), ("db", 9): ()}, {}, "files", ("db", 9))
        self.assert_wrong({}, {LIB: ("lib",), NEW_DB: ("x",)}, "takes", NEW_DB)
        self.assert_wrong({}, {LIB: ("lib",), ("a", 7): ()}, "takes", ("a", 7))


class RivalsTest(unittest.TestCase):
    def test_no_files(self):
        self.assertEqual(rivals(Layout(STORE, {}, {})), [])
        self.assertEqual(most_together(Layout(STORE, {}, {})), (DB, LIB))

    def test_two_versions_of_one_package(self):
        self.assertEqual(rivals(Layout(STORE, {DB: (("run", 1),), NEW_DB: (("run", 2),)}, {})), [])

    def test_several_paths_in_common(self):
        layout = Layout(STORE, {DB: (("a", 1), ("b", 1), ("c", 1)), NEW_DB: (("c", 2),),
                                LIB: (("a", 1), ("c", 1), ("d", 1))}, {})
        self.assertEqual(rivals(layout), [(DB, LIB, "a"), (DB, LIB, "c"), (NEW_DB, LIB, "c")])

    def test_the_same_content_does_not_help(self):
        self.assertEqual(rivals(Layout(STORE, {DB: (("run", 1),), LIB: (("run", 1),)}, {})), [(DB, LIB, "run")])

    def test_taking_over_in_either_direction(self):
        files = {DB: (("run", 1),), NEW_DB: (("run", 1),), LIB: (("run", 1),)}
        self.assertEqual(rivals(Layout(STORE, files, {DB: ("lib",)})), [(NEW_DB, LIB, "run")])
        self.assertEqual(rivals(Layout(STORE, files, {LIB: ("db",)})), [])
        self.assertEqual(rivals(Layout(STORE, files, {DB: (), LIB: ()})), [(DB, LIB, "run"), (NEW_DB, LIB, "run")])

    def test_taking_over_from_a_third_package_does_not_help(self):
        store = named_store(("a", 1), ("b", 1), ("c", 1))
        files = {(name, 1): (("run", 1),) for name in "abc"}
        self.assertEqual(rivals(Layout(store, files, {("a", 1): ("b",)})),
                         [(("a", 1), ("c", 1), "run"), (("b", 1), ("c", 1), "run")])

    def test_all_pairs(self):
        chooser = random.Random(17)
        for _ in range(200):
            layout = random_layout(chooser, random_files_store(chooser))
            self.assertEqual(rivals(layout), rivals_tried(layout))


class MostTogetherTest(unittest.TestCase):
    def test_the_first_of_several(self):
        files = {DB: (("run", 1),), NEW_DB: (("run", 1),), LIB: (("run", 1),)}
        self.assertEqual(most_together(Layout(STORE, files, {})), (DB,))
        self.assertEqual(most_together(Layout(STORE, files, {NEW_DB: ("lib",)})), (NEW_DB, LIB))

    def test_a_later_longer_one_comes_before_an_earlier_shorter_one(self):
        store = named_store(("a", 1), ("b", 1), ("c", 1))
        files = {("a", 1): (("p", 1), ("q", 1)), ("b", 1): (("p", 1),), ("c", 1): (("q", 1),)}
        self.assertEqual(most_together(Layout(store, files, {})), (("b", 1), ("c", 1)))

    def test_versions_are_ordered_as_numbers(self):
        store = named_store(("a", 10), ("a", 9), ("b", 3))
        self.assertEqual(most_together(Layout(store, {}, {})), (("a", 9), ("b", 3)))

    def test_one_edition(self):
        self.assertEqual(most_together(Layout(named_store(("a", 5)), {}, {})), (("a", 5),))

    def test_all_sets(self):
        chooser = random.Random(71)
        lengths = set()
        for _ in range(300):
            layout = random_layout(chooser, random_files_store(chooser), "pq")
            found = most_together(layout)
            lengths.add(len(found))
            self.assertEqual(found, most_tried(layout))
        self.assertEqual(lengths, {1, 2, 3, 4})


class ReturnedTest(unittest.TestCase):
    def test_returned_lists_may_be_modified(self):
        layout = Layout(STORE, {DB: (("run", 1),), LIB: (("run", 1),)}, {})
        rivals(layout).clear()
        self.assertEqual(rivals(layout), [(DB, LIB, "run")])
        self.assertIsInstance(most_together(layout), tuple)
        self.assertEqual(layout, Layout(STORE, {DB: (("run", 1),), LIB: (("run", 1),)}, {}))


def random_files_store(chooser):
    keys = [(name, version) for name in "abcd"[:chooser.randint(1, 4)] for version in range(1, chooser.randint(2, 4))]
    return named_store(*keys)


def rivals_tried(layout):
    """The rivals, by asking for each pair of editions and each path."""
    found = []
    for key, other in itertools.product(keys_of(layout.store), repeat=2):
        for path in "pqrs":
            both = path in paths_in(layout, key) and path in paths_in(layout, other)
            taking = other[0] in layout.takes.get(key, ()) or key[0] in layout.takes.get(other, ())
            if key < other and key[0] != other[0] and both and not taking:
                found.append((key, other, path))
    return sorted(found)


def most_tried(layout):
    """The longest tuple of editions that can be together, by trying all sets."""
    apart = {(key, other) for key, other, path in rivals_tried(layout)}
    fitting = [some for count in range(5) for some in itertools.combinations(keys_of(layout.store), count)
               if len({name for name, version in some}) == count
               and not apart & set(itertools.combinations(some, 2))]
    return min(fitting, key=lambda some: (-len(some), some))


if __name__ == "__main__":
    unittest.main()

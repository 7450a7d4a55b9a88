"""Point 3: stores."""

import itertools
import unittest

from halfsetup.editions import Edition
from halfsetup.errors import InvalidStore, UnknownEdition, UnknownName, UnlikeStores
from halfsetup.stores import Store, check_alike, edition_keys


def editions_of(*keys):
    return tuple(Edition(name, version) for name, version in keys)


def numbered(name, count):
    return [(name, version) for version in range(1, count + 1)]


class StoreTest(unittest.TestCase):
    def assert_wrong(self, index, *keys):
        with self.assertRaises(InvalidStore) as caught:
            Store(editions_of(*keys))
        self.assertEqual(caught.exception.index, index)

    def setUp(self):
        self.store = Store(editions_of(("lib", 1), ("db", 2), ("db", 1), ("db", 10)))

    def test_the_interface_example(self):
        store = Store((Edition("lib", 1), Edition("db", 2), Edition("db", 1)))
        self.assertEqual(
            [store.names, store.versions("db"), len(store), ("lib", 2) in store, store[("db", 2)].version],
            [("db", "lib"), (1, 2), 3, False, 2])
        self.assert_wrong(2, ("db", 1), ("lib", 1), ("db", 1))

    def test_names_ascend(self):
        self.assertEqual(self.store.names, ("db", "lib"))
        self.assertEqual(Store(editions_of(("z", 1), ("b", 1), ("a", 1), ("m", 1))).names, ("a", "b", "m", "z"))
        self.assertIsInstance(vars(Store)["names"], property)

    def test_versions_ascend_as_numbers(self):
        self.assertEqual(self.store.versions("db"), (1, 2, 10))
        self.assertEqual(self.store.versions("lib"), (1,))

    def test_versions_of_an_unknown_name(self):
        for name in ("web", "", "d", "DB"):
            with self.subTest(name), self.assertRaises(UnknownName):
                self.store.versions(name)

    def test_len_is_the_number_of_editions(self):
        self.assertEqual(len(self.store), 4)
        for count in (1, 2, 11, 12):
            with self.subTest(count):
                self.assertEqual(len(Store(editions_of(*numbered("db", count)))), count)

    def test_items_are_the_editions(self):
        db = Edition("db", 1, scripts=(), needs=(("lib", 1),))
        store = Store((Edition("db", 2), db, Edition("lib", 1)))
        self.assertEqual(store[("db", 1)], db)
        self.assertEqual(store["db", 2], Edition("db", 2))

    def test_unknown_editions(self):
        for key in (("db", 3), ("db", 0), ("lib", 2), ("web", 1), ("", 1), ("db", True)):
            with self.subTest(key), self.assertRaises(UnknownEdition):
                self.store[key]

    def test_in_tells_whether_there_is_an_edition(self):
        for key in (("lib", 1), ("db", 1), ("db", 2), ("db", 10)):
            with self.subTest(key):
                self.assertIs(key in self.store, True)
        for key in (("lib", 2), ("db", 3), ("db", 0), ("web", 1), ("db", True)):
            with self.subTest(key):
                self.assertIs(key in self.store, False)

    def test_a_store_cannot_be_iterated_over(self):
        with self.assertRaises(TypeError):
            iter(self.store)
        with self.assertRaises(TypeError):
            list(self.store)

    def test_stores_are_equal_in_whatever_order(self):
        editions = (Edition("lib", 1, scripts=()), Edition("db", 2), Edition("db", 1, against=("lib",)))
        for order in itertools.permutations(editions):
            self.assertTrue(Store(editions) == Store(order))
            self.assertFalse(Store(editions) != Store(order))

    def test_stores_with_other_editions_are_different(self):
        store = Store(editions_of(("db", 1), ("lib", 1)))
        for other in (editions_of(("db", 1)), editions_of(("db", 1), ("lib", 2)),
                      editions_of(("db", 1), ("lib", 1), ("lib", 2)),
                      (Edition("db", 1), Edition("lib", 1, scripts=())),
                      (Edition("db", 1, first=(("lib", 1),)), Edition("lib", 1))):
            self.assertFalse(store == Store(other))
            self.assertFalse(Store(other) == store)
            self.assertTrue(store != Store(other))

    def test_errors_change_nothing_and_repeated_calls_return_equal_results(self):
        before = Store(editions_of(("lib", 1), ("db", 2), ("db", 1), ("db", 10)))
        for _ in range(2):
            with self.assertRaises(UnknownName):
                self.store.versions("web")
            with self.assertRaises(UnknownEdition):
                self.store[("web", 1)]
            self.assertEqual(self.store, before)
            self.assertEqual((self.store.names, self.store.versions("db"), len(self.store)),
                             (("db", "lib"), (1, 2, 10), 4))

    def test_a_store_equals_nothing_else(self):
        self.assertFalse(self.store == editions_of(("lib", 1), ("db", 2), ("db", 1), ("db", 10)))
        self.assertFalse(self.store == None)  # noqa: E711


class InvalidStoreTest(unittest.TestCase):
    assert_wrong = StoreTest.assert_wrong

    def test_there_is_at_least_one_edition(self):
        self.assert_wrong(0)
        self.assertEqual(len(Store(editions_of(("a", 1)))), 1)

    def test_there_are_at_most_twelve_editions(self):
        self.assertEqual(len(Store(editions_of(*numbered("db", 12)))), 12)
        self.assert_wrong(12, *numbered("db", 13))
        self.assert_wrong(12, *numbered("db", 14))
        self.assert_wrong(12, *numbered("db", 7), *numbered("lib", 7))

    def test_there_are_at_most_four_names(self):
        four = [("a", 1), ("b", 1), ("c", 1), ("d", 1)]
        self.assertEqual(Store(editions_of(*four)).names, ("a", "b", "c", "d"))
        self.assertEqual(len(Store(editions_of(*four, ("a", 2), ("d", 2)))), 6)
        self.assert_wrong(4, *four, ("e", 1))
        self.assert_wrong(5, *four, ("d", 2), ("e", 1), ("e", 2))
        self.assert_wrong(6, ("e", 1), ("e", 2), ("e", 3), *four[1:], ("a", 1))
        self.assert_wrong(4, *four, ("e", 1), ("f", 1))

    def test_no_edition_is_there_twice(self):
        self.assert_wrong(1, ("a", 1), ("a", 1))
        self.assert_wrong(2, ("a", 1), ("b", 1), ("b", 1))
        self.assert_wrong(2, ("a", 1), ("b", 1), ("a", 1), ("b", 1))
        self.assert_wrong(3, ("a", 1), ("a", 2), ("b", 1), ("a", 1), ("a", 2))

    def test_editions_of_one_key_but_other_parts_are_the_same_twice(self):
        with self.assertRaises(InvalidStore) as caught:
            Store((Edition("a", 1), Edition("b", 1), Edition("a", 1, scripts=())))
        self.assertEqual(caught.exception.index, 2)

    def test_the_least_index_is_told(self):
        four = [("a", 1), ("b", 1), ("c", 1), ("d", 1)]
        self.assert_wrong(4, *four, ("e", 1), ("a", 1))
        self.assert_wrong(4, *four, ("a", 1), ("e", 1))
        self.assert_wrong(3, *four[:3], ("b", 1), *four[3:], ("e", 1))
        self.assert_wrong(12, *numbered("db", 12), ("db", 1))
        self.assert_wrong(11, *numbered("db", 11), ("db", 5), ("db", 12), ("db", 13))
        self.assert_wrong(12, *numbered("a", 9), *four[1:], ("e", 1))
        self.assert_wrong(11, *numbered("a", 8), *four[1:], ("e", 1), ("a", 9), ("a", 10))
        self.assert_wrong(12, *numbered("a", 12), ("a", 13), ("a", 1))

    def test_the_keys_of_all_editions_ascend(self):
        store = Store(editions_of(("lib", 10), ("lib", 9), ("db", 2)))
        self.assertEqual(edition_keys(store), [("db", 2), ("lib", 9), ("lib", 10)])

    def test_unlike_stores(self):
        one = Store(editions_of(("db", 1), ("lib", 1)))
        self.assertIsNone(check_alike(one, Store(editions_of(("lib", 1), ("db", 1)))))
        for other in (Store(editions_of(("db", 1))), Store((Edition("db", 1), Edition("lib", 1, scripts=())))):
            with self.assertRaises(UnlikeStores):
                check_alike(one, other)


if __name__ == "__main__":
    unittest.main()

"""Point 2: editions."""

import unittest

from halfsetup.editions import Edition
from halfsetup.errors import InvalidEdition

PARTS = ("name", "version", "scripts", "needs", "first", "against")
RIGHT = {"name": "db", "version": 2, "scripts": ("enter", "setup"), "needs": (("app", 1), ("lib", 3)),
         "first": (("lib", 2),), "against": ("web", "x")}
WRONG = {"name": "", "version": 0, "scripts": ("setup", "enter"), "needs": (("db", 1),),
         "first": (("lib", 0),), "against": ("web", "web")}
WORDS = ("a", "z", "abcdefgh")
NO_WORDS = ("", "abcdefghi", "A", "Lib", "li1", "li b", "li-b", "\u00e9", "lib\n", "_")


def made(**changed):
    parts = {**RIGHT, **changed}
    return Edition(parts.pop("name"), parts.pop("version"), **parts)


class EditionTest(unittest.TestCase):
    def assert_wrong(self, part, **changed):
        with self.assertRaises(InvalidEdition) as caught:
            made(**changed)
        self.assertEqual(caught.exception.part, part)

    def test_the_interface_example(self):
        self.assertEqual(
            [Edition("db", 2).scripts, Edition("db", 2, needs=(("lib", 1),)).needs,
             Edition("db", 2) == Edition("db", 2, scripts=())],
            [("clean", "enter", "leave", "setup"), (("lib", 1),), False])
        with self.assertRaises(InvalidEdition) as caught:
            Edition("db", 0, against=("db",))
        self.assertEqual(caught.exception.part, "version")

    def test_all_six_are_properties(self):
        edition = made()
        for part in PARTS:
            with self.subTest(part):
                self.assertEqual(getattr(edition, part), RIGHT[part])
                self.assertIsInstance(vars(Edition)[part], property)
                with self.assertRaises(AttributeError):
                    setattr(edition, part, RIGHT[part])

    def test_the_defaults(self):
        edition = Edition("db", 1)
        self.assertEqual(edition.scripts, ("clean", "enter", "leave", "setup"))
        self.assertEqual((edition.needs, edition.first, edition.against), ((), (), ()))

    def test_the_last_four_are_passed_by_keyword(self):
        with self.assertRaises(TypeError):
            Edition("db", 1, ())

    def test_names_are_words(self):
        for name in WORDS:
            with self.subTest(name):
                self.assertEqual(made(name=name).name, name)
        for name in NO_WORDS:
            with self.subTest(name):
                self.assert_wrong("name", name=name)

    def test_versions_are_1_to_99(self):
        for version in (1, 2, 98, 99):
            with self.subTest(version):
                self.assertEqual(made(version=version).version, version)
        for version in (-1, 0, 100, 101, True, False):
            with self.subTest(version):
                self.assert_wrong("version", version=version)

    def test_scripts_are_any_ascending_ones_of_the_four(self):
        for scripts in ((), ("clean",), ("enter",), ("leave",), ("setup",), ("clean", "setup"),
                        ("enter", "leave"), ("clean", "enter", "leave", "setup")):
            with self.subTest(scripts):
                self.assertEqual(made(scripts=scripts).scripts, scripts)
        for scripts in (("setup", "clean"), ("clean", "clean"), ("other",), ("clean", "other"), ("",),
                        ("Clean",), ("clean", "enter", "setup", "leave"), ("clean", "enter", "enter")):
            with self.subTest(scripts):
                self.assert_wrong("scripts", scripts=scripts)

    def test_needs_and_first_are_ascending_needs_of_other_packages(self):
        right = ((), (("a", 1),), (("lib", 99),), (("a", 5), ("b", 1), ("c", 5)), (("d", 1), ("dba", 1)),
                 tuple((name, 1) for name in ("a", "c", "e", "g", "i", "k", "m")), (("abcdefgh", 1),))
        wrong = ((("lib", 1), ("app", 1)), (("lib", 1), ("lib", 2)), (("lib", 2), ("lib", 1)), (("lib", 1), ("lib", 1)),
                 (("db", 1),), (("app", 1), ("db", 2)), (("lib", 0),), (("lib", 100),), (("lib", -1),),
                 (("lib", True),), (("app", 1), ("lib", 0)), (("a", 1), ("c", 1), ("b", 1)))
        for part in ("needs", "first"):
            for needs in right:
                with self.subTest((part, needs)):
                    self.assertEqual(getattr(made(**{part: needs}), part), needs)
            for needs in (*wrong, *(((name, 1),) for name in NO_WORDS)):
                with self.subTest((part, needs)):
                    self.assert_wrong(part, **{part: needs})

    def test_against_are_ascending_names_of_other_packages(self):
        for names in ((), ("a",), ("abcdefgh",), ("a", "b", "c", "e", "f"), ("d", "dba")):
            with self.subTest(names):
                self.assertEqual(made(against=names).against, names)
        for names in (("b", "a"), ("a", "a"), ("db",), ("app", "db", "lib"), ("a", "c", "b"),
                      *((name,) for name in NO_WORDS)):
            with self.subTest(names):
                self.assert_wrong("against", against=names)

    def test_values_that_are_no_tuples_are_wrong(self):
        self.assert_wrong("scripts", scripts=["clean"])
        self.assert_wrong("needs", needs=[("lib", 1)])
        self.assert_wrong("first", first=(["lib", 1],))
        self.assert_wrong("first", first=(("lib", 1, 1),))
        self.assert_wrong("against", against=["lib"])

    def test_the_first_of_several_wrong_parts_is_told(self):
        for chosen in range(1, 64):
            wrong = [part for at, part in enumerate(PARTS) if chosen >> at & 1]
            with self.subTest(wrong):
                self.assert_wrong(wrong[0], **{part: WRONG[part] for part in wrong})

    def test_editions_are_equal_if_all_six_parts_are(self):
        self.assertTrue(made() == made())
        self.assertFalse(made() != made())
        others = {"name": "dbx", "version": 3, "scripts": ("enter",), "needs": (("app", 1), ("lib", 2)),
                  "first": (("lib", 1),), "against": ("web",)}
        for part in PARTS:
            with self.subTest(part):
                self.assertFalse(made() == made(**{part: others[part]}))
                self.assertTrue(made() != made(**{part: others[part]}))

    def test_an_edition_equals_nothing_else(self):
        self.assertFalse(Edition("db", 1) == ("db", 1))
        self.assertFalse(Edition("db", 1) == None)  # noqa: E711


if __name__ == "__main__":
    unittest.main()

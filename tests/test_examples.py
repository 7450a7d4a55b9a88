"""All examples of the document's interface, as they stand in examples.md."""

import pathlib
import re
import unittest

from halfsetup.errors import SetupError

TEXT = (pathlib.Path(__file__).resolve().parent / "examples.md").read_text(encoding="utf-8")
FILES = ("editions stores systems deeds running courses sights reaching ways sureness layouts trees diversions"
         " settings orders faults desks watches notation codec scripts").split()


def examples():
    """Tuples (file, list of the rows to execute, what the last of them gives)."""
    found = []
    for section in TEXT.split("\n## ")[1:]:
        for block in re.findall(r"```\n(.*?)\n```", section, re.DOTALL):
            *rows, told = block.split("\n")
            found.append((section.split("\n")[0], [row.removeprefix(">>> ") for row in rows], told))
    return found


def outcome(rows):
    """What the last row gives, written as the document writes it."""
    names = {}
    try:
        for row in rows[:-1]:
            exec(row, names)
        return repr(eval(rows[-1], names))
    except SetupError as error:
        attributes = ", ".join(f"{name}={worth!r}" for name, worth in vars(error).items())
        return f"raises {type(error).__name__}({attributes})"


class ExamplesTest(unittest.TestCase):
    def test_each_file_has_examples(self):
        self.assertEqual(list(dict.fromkeys(file for file, rows, told in examples())),
                         [f"halfsetup/{name}.py" for name in FILES])
        self.assertEqual(len(examples()), 34)

    def test_all_examples(self):
        for file, rows, told in examples():
            with self.subTest((file, rows[-1])):
                self.assertEqual(outcome(rows), told)


if __name__ == "__main__":
    unittest.main()

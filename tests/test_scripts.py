"""Point 30: scripts that are executed on a system."""

import itertools
import random
import unittest

from halfsetup.deeds import refusal
from halfsetup.editions import Edition
from halfsetup.errors import ScriptError, TooLong, UnknownPackage
from halfsetup.running import run
from halfsetup.scripts import run_script
from halfsetup.stores import Store
from halfsetup.systems import System
from tests.samples import one_package, random_states, random_store

STATUSES = ("absent", "failed", "half", "left", "ready", "unpacked")
PAIR = System(Store((Edition("db", 1, needs=(("lib", 1),), against=("web",)), Edition("db", 2, first=(("lib", 2),)),
                     Edition("lib", 1))), {})


def script(*rows):
    return "\n".join(rows)


def output(system, *rows):
    return run_script(system, script(*rows))[1]


def wrong_row(*rows):
    """The row of ScriptError."""
    try:
        run_script(one_package(), script(*rows))
    except ScriptError as error:
        return error.row
    return None


def nested(depth, word="repeat 1"):
    return [word] * depth + ["show lib"] + ["end"] * depth


def random_block(chooser, depth, room):
    """A list of commands, those that begin blocks being tuples of their row and the commands in them."""
    commands = []
    for _ in range(chooser.randint(0 if depth else 2, 4)):
        kind = chooser.choice(("unpack", "unpack", "setup", "remove", "purge", "fail", "show", "show", "repeat", "when"))
        name = chooser.choice("aaabbbc" if kind not in ("show", "when") else "aaaaaaaaaaaabbbbbbbbbbbbc")
        if kind == "unpack":
            commands.append(f"unpack {name} {chooser.choice((0, 1, 2, 2, 9))}")
        elif kind == "fail":
            some = sorted(chooser.sample(range(4), chooser.randint(0, 3)))
            commands.append(" ".join(["fail", *map(str, some)]))
        elif kind in ("repeat", "when"):
            row = f"repeat {chooser.choice((0, 1, 2, 3, 9, 60))}" if kind == "repeat" else f"when {name} {chooser.choice(STATUSES)}"
            if depth < 4 and room > 0:
                commands.append((row, random_block(chooser, depth + 1, room - 1)))
        else:
            commands.append(f"{kind} {name}")
    return commands


def rows_in(commands):
    rows = []
    for command in commands:
        rows += [command] if isinstance(command, str) else [command[0], *rows_in(command[1]), "end"]
    return rows


def unrolled(commands):
    """The commands, with blocks repeated as often as they are told; None stands for the beginning of each turn."""
    for command in commands:
        yield command
        if not isinstance(command, str) and command[0].startswith("repeat"):
            for _ in range(int(command[0].split()[1])):
                yield None
                yield from unrolled(command[1])


def told_steps(commands):
    """The first steps of commands, more than a script can take."""
    return list(itertools.islice(unrolled(commands), 400))


def told_output(system, commands):
    """A second model of `run_script`: what it returns, or the name of its error."""
    lines, fails, steps = [], (), 0
    waiting = told_steps(commands)
    while waiting:
        command = waiting.pop(0)
        steps += 1
        if steps > 300:
            return "TooLong"
        if command is None:
            continue
        words = (command if isinstance(command, str) else command[0]).split()
        if words[0] in ("show", "when") and words[1] not in system.store.names:
            return "UnknownPackage"
        if words[0] == "show":
            lines.append(" ".join(map(str, system[words[1]])))
        elif words[0] == "when":
            if system[words[1]][0] == words[2]:
                waiting = told_steps(command[1]) + waiting
        elif words[0] == "fail":
            fails = tuple(map(int, words[1:]))
        elif words[0] != "repeat":
            deed = (words[0], words[1], int(words[2])) if words[0] == "unpack" else tuple(words)
            if refusal(system, deed):
                lines.append(" ".join(("refused", *refusal(system, deed))))
            else:
                system, fails = run(system, deed, fails)[0], ()
    return (system, lines)


class ExecutionTest(unittest.TestCase):
    def test_the_interface_examples(self):
        system = System(Store((Edition("lib", 1),)), {})
        text = ("fail 0\nunpack lib 1\nshow lib\nsetup lib\nrepeat 2\nunpack lib 1\nend\nwhen lib unpacked\nsetup lib\nend"
                "\nshow lib")
        self.assertEqual(run_script(system, text)[1], ["absent 0 0", "refused status", "refused same", "ready 1 1"])
        self.assertEqual(wrong_row("when lib ready"), 1)

    def test_the_empty_script(self):
        self.assertEqual(run_script(PAIR, ""), (PAIR, []))

    def test_deeds(self):
        later, lines = run_script(PAIR, script("unpack lib 1", "setup lib", "unpack db 1", "setup db"))
        self.assertEqual((later.states, lines), ({"db": ("ready", 1, 1), "lib": ("ready", 1, 1)}, []))
        later, lines = run_script(later, script("remove db", "purge db", "remove lib"))
        self.assertEqual((later.states, lines), ({"db": ("absent", 0, 0), "lib": ("left", 1, 1)}, []))

    def test_refusals(self):
        self.assertEqual(
            output(PAIR, "unpack db 1", "unpack db 1", "setup db", "setup web", "unpack db 2", "unpack db 0", "unpack app 1",
                   "purge db", "remove lib", "remove app", "purge app", "setup lib"),
            ["refused same", "refused needs lib", "refused unknown", "refused first lib", "refused unknown",
             "refused unknown", "refused status", "refused status", "refused unknown", "refused unknown", "refused status"])
        system = System(Store((Edition("a", 1, needs=(("b", 1),)), Edition("b", 1), Edition("c", 1, against=("a",)))),
                        {"a": ("ready", 1, 1), "b": ("ready", 1, 1)})
        self.assertEqual(output(system, "remove b", "unpack c 1"), ["refused needed a", "refused against a"])

    def test_show(self):
        self.assertEqual(output(one_package(), "show lib", "unpack lib 1", "show lib", "setup lib", "show lib", "show lib"),
                         ["absent 0 0", "unpacked 1 0", "ready 1 1", "ready 1 1"])

    def test_fail(self):
        self.assertEqual(output(one_package(), "fail 0 1", "unpack lib 1", "show lib"), ["half 1 0"])
        self.assertEqual(output(one_package(), "fail", "unpack lib 1", "show lib"), ["unpacked 1 0"])
        self.assertEqual(output(one_package(), "fail 1 7 99", "unpack lib 1", "show lib"), ["unpacked 1 0"])
        # It counts for one deed only.
        self.assertEqual(output(one_package(), "fail 0", "unpack lib 1", "unpack lib 1", "show lib"), ["unpacked 1 0"])

    def test_the_last_fail_counts(self):
        self.assertEqual(output(one_package(), "fail 0 1", "fail 0", "unpack lib 1", "show lib"), ["absent 0 0"])
        self.assertEqual(output(one_package(), "fail 0 1", "fail", "unpack lib 1", "show lib"), ["unpacked 1 0"])

    def test_fail_ahead_of_a_deed_that_cannot_begin(self):
        self.assertEqual(output(one_package(), "fail 0", "setup lib", "purge web", "unpack lib 1", "show lib", "unpack lib 1",
                                "show lib"), ["refused status", "refused unknown", "absent 0 0", "unpacked 1 0"])

    def test_fail_in_and_ahead_of_blocks(self):
        self.assertEqual(output(one_package(), "fail 0", "repeat 2", "unpack lib 1", "show lib", "end"),
                         ["absent 0 0", "unpacked 1 0"])
        self.assertEqual(output(one_package(), "when lib absent", "fail 0", "end", "unpack lib 1", "show lib"), ["absent 0 0"])

    def test_a_deed_without_calls_uses_up_what_fails(self):
        system = System(Store((Edition("a", 1, scripts=()), Edition("b", 1))), {})
        self.assertEqual(output(system, "fail 0", "unpack a 1", "unpack b 1", "show b"), ["unpacked 1 0"])

    def test_repeat(self):
        self.assertEqual(output(one_package(), "repeat 3", "show lib", "end", "show lib"), ["absent 0 0"] * 4)
        self.assertEqual(output(one_package(), "repeat 0", "unpack lib 1", "show web", "end", "show lib"), ["absent 0 0"])
        self.assertEqual(output(one_package(), "repeat 5", "end"), [])
        self.assertEqual(output(one_package(), "repeat 2", "repeat 3", "show lib", "end", "unpack lib 1", "end"),
                         ["absent 0 0"] * 3 + ["unpacked 1 0"] * 3 + ["refused same"])

    def test_when(self):
        for status in STATUSES:
            expected = ["absent 0 0"] if status == "absent" else []
            self.assertEqual(output(one_package(), f"when lib {status}", "show lib", "end"), expected)
        self.assertEqual(output(one_package(), "when lib absent", "unpack lib 1", "when lib absent", "show lib", "end",
                                "when lib unpacked", "setup lib", "end", "end", "show lib"), ["ready 1 1"])

    def test_blocks_in_blocks(self):
        for depth in range(5):
            self.assertEqual(output(one_package(), *nested(depth)), ["absent 0 0"])
            self.assertEqual(output(one_package(), *nested(depth, "when lib absent")), ["absent 0 0"])
        self.assertEqual(len(output(one_package(), *nested(4, "repeat 2"))), 16)
        # Several blocks side by side are not one within the other.
        self.assertEqual(len(output(one_package(), *nested(4), *nested(4), *nested(4))), 3)

    def test_unknown_packages(self):
        for row in ("show web", "when web absent"):
            rows = ["show lib", row, *["end"] * row.startswith("when")]
            with self.subTest(row):
                with self.assertRaises(UnknownPackage) as caught:
                    run_script(one_package(), script(*rows))
                self.assertEqual(caught.exception.row, 1)
                with self.assertRaises(UnknownPackage) as caught:
                    run_script(one_package(), script("repeat 1", "when lib absent", *rows, "end", "end"))
                self.assertEqual(caught.exception.row, 3)
                # Those that are not executed are not looked at.
                self.assertEqual(output(one_package(), "when lib ready", *rows, "end"), [])
                self.assertEqual(output(one_package(), "repeat 0", *rows, "end"), [])

    def test_arguments_are_not_modified_and_lists_may_be(self):
        system = one_package()
        run_script(system, "unpack lib 1\nshow lib")[1].clear()
        self.assertEqual(run_script(system, "unpack lib 1\nshow lib")[1], ["unpacked 1 0"])
        self.assertEqual(system, one_package())
        self.assertIsInstance(run_script(system, ""), tuple)


class StepsTest(unittest.TestCase):
    def assert_steps(self, number, rows, system=None):
        """Check that rows take so many steps, by putting as many as can be, and one more, behind them."""
        for more, fits in ((300 - number, True), (301 - number, False)):
            # A loop of k turns without rows takes k + 1 steps.
            turns = []
            left = more
            while left > 0:
                turns.append(min(left, 100) - 1)
                left -= turns[-1] + 1
            text = script(*rows, *[row for count in turns for row in (f"repeat {count}", "end")])
            with self.subTest((rows, more)):
                if fits:
                    run_script(system or one_package(), text)
                else:
                    with self.assertRaises(TooLong):
                        run_script(system or one_package(), text)

    def test_rows_that_are_steps(self):
        self.assert_steps(0, [])
        for row in ("unpack lib 1", "setup lib", "setup web", "fail", "fail 0 1", "show lib"):
            self.assert_steps(1, [row])
        self.assert_steps(3, ["fail 0", "unpack lib 1", "show lib"])

    def test_steps_of_blocks(self):
        self.assert_steps(1, ["when lib absent", "end"])
        self.assert_steps(1, ["when lib ready", "end"])
        self.assert_steps(3, ["when lib absent", "show lib", "show lib", "end"])
        self.assert_steps(1, ["when lib ready", "show lib", "show lib", "end"])
        self.assert_steps(1, ["repeat 0", "show lib", "end"])
        self.assert_steps(7, ["repeat 3", "show lib", "end"])
        self.assert_steps(1 + 3 * (1 + 1 + 2 * (1 + 1)), ["repeat 3", "repeat 2", "fail", "end", "end"])
        self.assert_steps(1 + 2 * (1 + 1 + 1), ["repeat 2", "when lib absent", "show lib", "end", "end"])

    def test_300_steps_and_301(self):
        self.assertEqual(len(output(one_package(), "repeat 99", "show lib", "show lib", "end", "show lib", "show lib")), 200)
        with self.assertRaises(TooLong):
            output(one_package(), "repeat 99", "show lib", "show lib", "end", "show lib", "show lib", "show lib")
        with self.assertRaises(TooLong):
            output(one_package(), "repeat 99", "repeat 99", "repeat 99", "repeat 99", "end", "end", "end", "end")
        # Before the first row of the last turn, and before the turn itself.
        with self.assertRaises(TooLong):
            output(one_package(), "repeat 75", "repeat 1", "end", "show lib", "end")

    def test_the_301st_step_is_not_made(self):
        fill = ["repeat 99", "show lib", "show lib", "end", "show lib"]
        with self.assertRaises(UnknownPackage) as caught:
            output(one_package(), *fill, "show web")
        self.assertEqual(caught.exception.row, 5)
        with self.assertRaises(TooLong):
            output(one_package(), *fill, "show lib", "show web")
        with self.assertRaises(TooLong):
            output(one_package(), *fill, "show lib", "when web ready", "end")

    def test_a_script_error_comes_first(self):
        self.assertEqual(wrong_row("show web", "x"), 1)
        self.assertEqual(wrong_row("repeat 99", "repeat 99", "show lib", "end", "end", "show"), 5)
        self.assertEqual(wrong_row("show web", "repeat 1"), 2)


class ScriptErrorTest(unittest.TestCase):
    def test_rows_that_are_none(self):
        for row in (" ", "x", "Show lib", "show", "show ", "show  lib", " show lib", "show lib ", "show lib lib",
                    "show LIB", "show abcdefghi", "show 1", "unpack", "unpack lib", "unpack lib x", "unpack lib 01",
                    "unpack lib 100", "unpack lib -1", "unpack lib 1 1", "unpack 1 lib", "unpack Lib 1", "setup", "setup a b",
                    "setup lib 1", "remove", "remove a b", "remove lib1", "purge", "purge lib ", "purge a-b", "fail x", "fail ",
                    "fail 1 1", "fail 2 1", "fail 1 3 2", "fail 01", "fail 100", "fail 0 -1", "fail  1", "repeat",
                    "repeat x", "repeat 100", "repeat 00", "repeat -1", "repeat 1 1", "when", "when lib", "when lib gone",
                    "when lib Ready", "when lib ready now", "when ready", "when LIB ready", "end end", "end ", "fail 1,2",
                    "act", "undo", "mend_all", "show\tlib", "unpack lib \u0661"):
            with self.subTest(row):
                self.assertEqual(wrong_row(row), 0)
                self.assertEqual(wrong_row("show lib", row, "end"), 1)
                self.assertEqual(wrong_row("when lib ready", "show lib", row), 2)

    def test_rows_without_words(self):
        self.assertIsNone(wrong_row(""))
        self.assertEqual([wrong_row("", ""), wrong_row("show lib", ""), wrong_row("show lib", "", "show lib")], [0, 1, 1])

    def test_an_end_without_a_block(self):
        self.assertEqual(wrong_row("end"), 0)
        self.assertEqual(wrong_row("repeat 1", "end", "end"), 2)
        self.assertEqual(wrong_row("show lib", "end", "x"), 1)

    def test_a_missing_end(self):
        self.assertEqual(wrong_row("repeat 1"), 1)
        self.assertEqual(wrong_row("when lib ready", "repeat 2", "end", "show lib"), 4)
        # A wrong row comes before it.
        self.assertEqual(wrong_row("repeat 1", "show lib", "x"), 2)

    def test_five_blocks_within_each_other(self):
        for word in ("repeat 0", "when lib ready"):
            self.assertIsNone(wrong_row(*nested(4, word)))
            self.assertEqual(wrong_row(*nested(5, word)), 4)
        self.assertEqual(wrong_row("repeat 1", "when lib absent", *nested(3, "repeat 0"), "end", "end"), 4)
        self.assertEqual(wrong_row(*nested(4), "x"), 9)
        self.assertEqual(wrong_row(*["repeat 1"] * 5), 4)

    def test_60_rows_and_61(self):
        self.assertIsNone(wrong_row(*["show lib"] * 60))
        self.assertEqual(wrong_row(*["show lib"] * 61), 60)
        self.assertEqual(wrong_row(*["show lib"] * 70), 60)
        self.assertIsNone(wrong_row("repeat 0", *["show lib"] * 58, "end"))
        self.assertEqual(wrong_row("repeat 0", *["show lib"] * 59, "end"), 60)
        self.assertEqual(wrong_row("repeat 0", *["show lib"] * 59), 60)
        self.assertEqual(wrong_row("repeat 0", *["show lib"] * 58, "x", "x"), 59)

    def test_nothing_is_executed_before(self):
        system = one_package()
        with self.assertRaises(ScriptError):
            run_script(system, "unpack lib 1\nshow")
        self.assertEqual(system, one_package())


class ModelTest(unittest.TestCase):
    def test_as_a_second_model(self):
        chooser = random.Random(32)
        kinds = {}
        for _ in range(600):
            system = random_states(chooser, random_store(chooser))
            commands = random_block(chooser, 0, 4)
            rows = rows_in(commands)
            if len(rows) > 60:
                continue
            expected = told_output(system, commands)
            try:
                found = run_script(system, script(*rows))
            except (TooLong, UnknownPackage) as error:
                found = type(error).__name__
            with self.subTest(rows):
                self.assertEqual(found, expected)
            kind = found if isinstance(found, str) else "fine"
            kinds[kind] = kinds.get(kind, 0) + 1
        self.assertEqual(sorted(kinds), ["TooLong", "UnknownPackage", "fine"])
        self.assertGreater(kinds["fine"], 200)


if __name__ == "__main__":
    unittest.main()

"""Points 25 and 26: a live desk."""

import random
import unittest

from halfsetup.desks import Desk, Trial
from halfsetup.editions import Edition
from halfsetup.errors import InvalidName, InvalidOperation, NoWay, Refused, SetupError, UnknownKept
from halfsetup.running import run
from halfsetup.stores import Store
from halfsetup.systems import System, is_sound
from halfsetup.ways import mend
from tests.samples import one_package, random_deed, random_states, random_store

UNPACK, SET_UP, REMOVE, PURGE = ("unpack", "lib", 1), ("setup", "lib"), ("remove", "lib"), ("purge", "lib")
ACT_UNPACK, ACT_SET_UP = ("act", UNPACK, ()), ("act", SET_UP, ())
# Each of the two is needed by the other one, so none can be removed, and what one needs cannot be there.
BROKEN = System(Store((Edition("a", 1, needs=(("b", 1), ("x", 1))), Edition("b", 1, needs=(("a", 1),)))),
                {"a": ("ready", 1, 1), "b": ("ready", 1, 1)})


def look(desk):
    """All that the properties of a desk tell."""
    return (desk.system, desk.call_count, desk.kept, desk.history)


def full_look(desk):
    """All that the properties tell, also behind each undo and each redo that can be made; the desk stays as it is."""
    with Trial(desk):
        seen = [look(desk)]
        while desk.redo():
            seen.append(look(desk))
        while desk.undo():
            seen.append(look(desk))
    return seen


def refused(call, kind):
    """The error of a kind that a call raises."""
    try:
        call()
    except kind as error:
        return error
    raise AssertionError(f"{kind} was not raised")


class Model:
    """A second model of a desk, which executes all operations in effect anew for each question."""

    def __init__(self, system):
        self.first, self.effective, self.undone = system, [], []

    def now(self):
        system, count, kept = self.first, 0, {}
        for name, *arguments in self.effective:
            if name == "act":
                system, calls = run(system, *arguments)
                count += len(calls)
            elif name == "mend_all":
                for deed in mend(system)[0]:
                    system, calls = run(system, deed, ())
                    count += len(calls)
            elif name == "store_as":
                kept[arguments[0]] = system
            else:
                system = kept[arguments[0]]
        return (system, count, kept)

    def look(self):
        system, count, kept = self.now()
        return (system, count, sorted(kept), self.effective)

    def result(self, operation):
        system, count, kept = self.now()
        if operation[0] == "act":
            return len(run(system, *operation[1:])[1])
        if operation[0] == "mend_all":
            if mend(system) is None:
                raise NoWay
            return len(mend(system)[0])
        if operation[0] == "store_as":
            return operation[1] in kept
        if operation[1] not in kept:
            raise UnknownKept
        return is_sound(kept[operation[1]])

    def execute(self, operation):
        if operation == ("undo",):
            if not self.effective:
                return False
            self.undone.append(self.effective.pop())
            return True
        if operation == ("redo",):
            if not self.undone:
                return False
            self.effective.append(self.undone.pop())
            return True
        result = self.result(operation)
        self.effective, self.undone = [*self.effective, operation], []
        return result

    def saved(self):
        return (list(self.effective), list(self.undone))

    def put_back(self, saved):
        self.effective, self.undone = list(saved[0]), list(saved[1])


def random_operation(chooser):
    name = chooser.choice(("act", "act", "act", "act", "mend_all", "store_as", "fetch", "undo", "undo", "redo", "redo"))
    if name == "act":
        return ("act", random_deed(chooser), chooser.choice(((), (), (0,), (0, 1), (1,))))
    return (name, chooser.choice("xy")) if name in ("store_as", "fetch") else (name,)


class OperationsTest(unittest.TestCase):
    def test_the_interface_examples(self):
        desk = Desk(System(Store((Edition("lib", 1),)), {}))
        unpack, setup = ("act", ("unpack", "lib", 1), ()), ("act", ("setup", "lib"), (0,))
        told = desk.apply_all([unpack, ("store_as", "x"), setup, ("mend_all",), ("fetch", "x")])
        self.assertEqual(
            [told, desk.call_count, desk.system["lib"], desk.kept, desk.undo(), desk.system["lib"]],
            [[1, False, 1, 1, False], 4, ("unpacked", 1, 0), ["x"], True, ("left", 1, 0)])
        desk = Desk(System(Store((Edition("lib", 1),)), {}))
        self.assertEqual(refused(lambda: desk.act(("setup", "lib"), ()), Refused).why, ("status",))

    def test_a_new_desk(self):
        system = one_package()
        desk = Desk(system)
        self.assertEqual(look(desk), (system, 0, [], []))
        self.assertEqual((desk.undo(), desk.redo()), (False, False))
        self.assertEqual(look(desk), (system, 0, [], []))

    def test_act(self):
        desk = Desk(one_package())
        self.assertEqual(desk.act(UNPACK, (0,)), 2)
        self.assertEqual(look(desk), (one_package(), 2, [], [("act", UNPACK, (0,))]))
        self.assertEqual(desk.act(UNPACK, ()), 1)
        self.assertEqual(desk.act(SET_UP, (0, 7)), 1)
        self.assertEqual((desk.system["lib"], desk.call_count), (("failed", 1, 0), 4))
        self.assertEqual(desk.history, [("act", UNPACK, (0,)), ("act", UNPACK, ()), ("act", SET_UP, (0, 7))])

    def test_an_operation_of_no_calls(self):
        desk = Desk(one_package(1, ()))
        self.assertEqual(desk.act(UNPACK, (0,)), 0)
        self.assertEqual((desk.system["lib"], desk.call_count), (("unpacked", 1, 0), 0))
        self.assertEqual(desk.history, [("act", UNPACK, (0,))])
        self.assertIs(desk.undo(), True)
        self.assertEqual(desk.system, one_package(1, ()))

    def test_an_act_that_is_refused_changes_nothing(self):
        desk = Desk(one_package())
        desk.apply_all([ACT_UNPACK, ACT_SET_UP, ("store_as", "x"), ("undo",), ("undo",)])
        before = full_look(desk)
        for deed, why in ((UNPACK, ("same",)), (PURGE, ("status",)), (("unpack", "lib", 2), ("unknown",)),
                          (("setup", "web"), ("unknown",))):
            self.assertEqual(refused(lambda: desk.act(deed, ()), Refused).why, why)
            self.assertEqual(full_look(desk), before)
        # What was undone before can be redone still.
        self.assertEqual((desk.redo(), desk.redo(), desk.redo()), (True, True, False))

    def test_mend_all_of_a_sound_system(self):
        desk = Desk(one_package())
        self.assertEqual(desk.mend_all(), 0)
        self.assertEqual(look(desk), (one_package(), 0, [], [("mend_all",)]))
        self.assertEqual((desk.undo(), desk.undo()), (True, False))

    def test_mend_all_of_a_broken_system(self):
        store = Store((Edition("a", 1), Edition("b", 1), Edition("c", 1, needs=(("b", 1),))))
        system = System(store, {"a": ("failed", 1, 0), "b": ("failed", 1, 1), "c": ("ready", 1, 1)})
        desk = Desk(system)
        self.assertEqual(desk.mend_all(), 2)
        # One leaves and cleans, the other one is set up.
        self.assertEqual(look(desk), (mend(system)[1], 3, [], [("mend_all",)]))
        self.assertEqual((desk.undo(), look(desk)), (True, (system, 0, [], [])))

    def test_mend_all_of_a_system_that_cannot_be_mended(self):
        desk = Desk(BROKEN)
        desk.store_as("x")
        desk.undo()
        before = full_look(desk)
        with self.assertRaises(NoWay):
            desk.mend_all()
        self.assertEqual(full_look(desk), before)

    def test_store_as_and_fetch(self):
        desk = Desk(one_package())
        self.assertIs(desk.store_as("x"), False)
        desk.act(UNPACK, ())
        self.assertIs(desk.store_as("ab"), False)
        desk.act(SET_UP, ())
        self.assertEqual(desk.kept, ["ab", "x"])
        self.assertIs(desk.fetch("x"), True)
        self.assertEqual((desk.system, desk.call_count), (one_package(), 2))
        self.assertIs(desk.fetch("ab"), False)
        self.assertEqual(desk.system["lib"], ("unpacked", 1, 0))
        self.assertEqual(desk.history, [("store_as", "x"), ACT_UNPACK, ("store_as", "ab"), ACT_SET_UP, ("fetch", "x"),
                                        ("fetch", "ab")])
        self.assertEqual(desk.kept, ["ab", "x"])

    def test_a_name_kept_twice_and_its_keeping_undone(self):
        desk = Desk(one_package())
        self.assertIs(desk.store_as("x"), False)
        desk.act(UNPACK, ())
        self.assertIs(desk.store_as("x"), True)
        with Trial(desk):
            desk.fetch("x")
            self.assertEqual(desk.system["lib"], ("unpacked", 1, 0))
        self.assertEqual(desk.kept, ["x"])
        desk.undo()
        self.assertEqual(desk.kept, ["x"])
        with Trial(desk):
            desk.fetch("x")
            self.assertEqual(desk.system["lib"], ("absent", 0, 0))
        desk.undo()
        desk.undo()
        self.assertEqual(desk.kept, [])
        with self.assertRaises(UnknownKept):
            desk.fetch("x")
        desk.redo()
        self.assertEqual(desk.kept, ["x"])
        self.assertIs(desk.store_as("x"), True)

    def test_names_that_are_no_words(self):
        desk = Desk(one_package())
        desk.store_as("x")
        before = full_look(desk)
        for name in ("", "X", "a b", "abcdefghi", "a1", "x\n"):
            with self.subTest(name):
                with self.assertRaises(InvalidName):
                    desk.store_as(name)
                # For a fetch, this is but a name under which nothing is kept.
                with self.assertRaises(UnknownKept):
                    desk.fetch(name)
                self.assertEqual(full_look(desk), before)
        self.assertIs(desk.store_as("abcdefgh"), False)

    def test_a_name_under_which_nothing_is_kept(self):
        desk = Desk(one_package())
        desk.store_as("x")
        before = full_look(desk)
        with self.assertRaises(UnknownKept):
            desk.fetch("y")
        self.assertEqual(full_look(desk), before)

    def test_lists_are_new_for_each_reading(self):
        desk = Desk(one_package())
        desk.store_as("x")
        desk.kept.clear()
        desk.history.clear()
        self.assertEqual(look(desk), (one_package(), 0, ["x"], [("store_as", "x")]))

    def test_desks_do_not_share_anything(self):
        system = one_package()
        one, other = Desk(system), Desk(system)
        one.apply_all([ACT_UNPACK, ("store_as", "x")])
        self.assertEqual(look(other), (system, 0, [], []))
        self.assertEqual(system, one_package())


class UndoTest(unittest.TestCase):
    def test_undo_and_redo_of_each_operation(self):
        desk = Desk(one_package())
        desk.apply_all([ACT_UNPACK, ("store_as", "x"), ACT_SET_UP, ("fetch", "x"), ("mend_all",)])
        looks = []
        while True:
            looks.append(look(desk))
            if not desk.undo():
                break
        self.assertEqual([one[1] for one in looks], [3, 2, 2, 1, 1, 0])
        self.assertEqual([one[2] for one in looks], [["x"]] * 4 + [[], []])
        self.assertEqual([len(one[3]) for one in looks], [5, 4, 3, 2, 1, 0])
        for before in looks[-2::-1]:
            self.assertIs(desk.redo(), True)
            self.assertEqual(look(desk), before)
        self.assertIs(desk.redo(), False)
        self.assertEqual(look(desk), looks[0])

    def test_redo_behind_another_operation(self):
        for operation in (("act", REMOVE, ()), ("mend_all",), ("store_as", "y"), ("fetch", "x")):
            desk = Desk(one_package())
            desk.apply_all([("store_as", "x"), ACT_UNPACK, ACT_SET_UP, ("undo",), operation])
            before = look(desk)
            self.assertIs(desk.redo(), False)
            self.assertEqual(look(desk), before)

    def test_redo_behind_an_undo_of_another_operation(self):
        desk = Desk(one_package())
        desk.apply_all([ACT_UNPACK, ACT_SET_UP, ("undo",), ("store_as", "x"), ("undo",)])
        self.assertEqual((desk.redo(), desk.redo()), (True, False))
        self.assertEqual(desk.history, [ACT_UNPACK, ("store_as", "x")])

    def test_an_operation_that_changes_nothing_ends_redo_too(self):
        desk = Desk(one_package())
        desk.apply_all([ACT_UNPACK, ("undo",), ("mend_all",)])
        self.assertIs(desk.redo(), False)

    def test_redo_executes_what_was_undone_last(self):
        desk = Desk(one_package())
        desk.apply_all([ACT_UNPACK, ACT_SET_UP, ("undo",), ("undo",), ("redo",)])
        self.assertEqual(look(desk), (one_package().with_state("lib", ("unpacked", 1, 0)), 1, [], [ACT_UNPACK]))


class ApplyAllTest(unittest.TestCase):
    def test_no_operations(self):
        desk = Desk(one_package())
        self.assertEqual((desk.apply_all([]), desk.tried([], True), look(desk)), ([], [], (one_package(), 0, [], [])))

    def test_results_of_all_six(self):
        desk = Desk(one_package())
        told = desk.apply_all([("undo",), ACT_UNPACK, ("store_as", "x"), ("store_as", "x"), ("mend_all",), ("fetch", "x"),
                               ("undo",), ("redo",), ("redo",), ("undo",)])
        self.assertEqual(told, [False, 1, False, True, 1, False, True, True, False, True])
        self.assertEqual(desk.history, [ACT_UNPACK, ("store_as", "x"), ("store_as", "x"), ("mend_all",)])
        self.assertEqual(desk.system["lib"], ("left", 1, 0))

    def test_each_operation_is_undone_on_its_own(self):
        desk = Desk(one_package())
        desk.apply_all([ACT_UNPACK, ACT_SET_UP])
        desk.undo()
        self.assertEqual(desk.history, [ACT_UNPACK])

    def test_an_operation_that_fails_among_others(self):
        desk = Desk(one_package())
        desk.apply_all([("store_as", "x"), ACT_UNPACK, ACT_SET_UP, ("undo",), ("undo",)])
        before = full_look(desk)
        for operations, kind in (
                ([ACT_UNPACK, ACT_UNPACK], Refused), ([("undo",), ("undo",), ("fetch", "x")], UnknownKept),
                ([("redo",), ("redo",), ("store_as", "z"), ("store_as", "Z"), ("mend_all",)], InvalidName),
                ([("fetch", "x"), ("undo",), ("act", PURGE, ())], Refused), ([("fetch", "q")], UnknownKept)):
            for call in (desk.apply_all, lambda some: desk.tried(some, True), lambda some: desk.tried(some, False)):
                with self.subTest(operations):
                    refused(lambda: call(operations), kind)
                    self.assertEqual(full_look(desk), before)
        self.assertEqual((desk.redo(), desk.redo(), desk.redo()), (True, True, False))

    def test_no_way_among_others(self):
        desk = Desk(BROKEN)
        before = full_look(desk)
        with self.assertRaises(NoWay):
            desk.apply_all([("store_as", "x"), ("mend_all",)])
        self.assertEqual(full_look(desk), before)

    def test_the_first_error_is_raised(self):
        desk = Desk(one_package())
        error = refused(lambda: desk.apply_all([ACT_UNPACK, ("act", PURGE, ()), ("fetch", "x")]), SetupError)
        self.assertEqual((type(error), error.why), (Refused, ("status",)))

    def test_what_is_no_operation(self):
        desk = Desk(one_package())
        desk.apply_all([ACT_UNPACK, ("undo",)])
        before = full_look(desk)
        wrong = [(), ("act",), ("act", UNPACK), ("act", UNPACK, (), ()), ("mend_all", 1), ("store_as",), ("store_as", "x", "y"),
                 ("fetch",), ("fetch", "x", "y"), ("undo", 1), ("redo", 1), ("apply_all", []), ("tried", [], True),
                 ("replay",), ("system",), ("history",), ("hold",), ("Act", UNPACK, ()), ("",), (1,), (None, UNPACK, ()),
                 ["undo"], ["act", UNPACK, ()], "undo", "act", None, 3, (["undo"],)]
        for operation in wrong:
            with self.subTest(operation):
                # It comes first, before any error of an operation before it.
                for operations, index in (([operation], 0), ([ACT_UNPACK, ("fetch", "q"), operation, ()], 2)):
                    for call in (desk.apply_all, lambda some: desk.tried(some, True),
                                 lambda some: Desk.replay(one_package(), some)):
                        self.assertEqual(refused(lambda: call(operations), InvalidOperation).index, index)
                        self.assertEqual(full_look(desk), before)

    def test_arguments_are_not_modified_or_kept_and_lists_may_be(self):
        desk = Desk(one_package())
        operations = [ACT_UNPACK, ACT_SET_UP]
        desk.apply_all(operations).clear()
        self.assertEqual(operations, [ACT_UNPACK, ACT_SET_UP])
        operations.clear()
        self.assertEqual(desk.history, [ACT_UNPACK, ACT_SET_UP])


class ReplayTest(unittest.TestCase):
    def test_the_history_replayed(self):
        desk = Desk(one_package())
        desk.apply_all([ACT_UNPACK, ("store_as", "x"), ("act", SET_UP, (0,)), ("undo",), ("mend_all",), ("fetch", "x")])
        other = Desk.replay(one_package(), desk.history)
        self.assertIsInstance(other, Desk)
        self.assertEqual(look(other), look(desk))

    def test_undo_and_redo_among_the_operations(self):
        desk = Desk.replay(one_package(), [ACT_UNPACK, ACT_SET_UP, ("undo",), ("undo",), ("redo",)])
        self.assertEqual(look(desk), (one_package().with_state("lib", ("unpacked", 1, 0)), 1, [], [ACT_UNPACK]))
        self.assertEqual((desk.redo(), desk.redo()), (True, False))

    def test_errors(self):
        with self.assertRaises(Refused):
            Desk.replay(one_package(), [ACT_UNPACK, ACT_UNPACK])
        with self.assertRaises(UnknownKept):
            Desk.replay(one_package(), [("fetch", "x")])


class TrialTest(unittest.TestCase):
    def setUp(self):
        self.desk = Desk(one_package())
        self.desk.apply_all([("store_as", "x"), ACT_UNPACK, ACT_SET_UP, ("undo",)])

    def test_a_block_that_is_not_held(self):
        before = full_look(self.desk)
        with Trial(self.desk) as trial:
            self.assertIsInstance(trial, Trial)
            self.desk.apply_all([("act", REMOVE, ()), ("act", PURGE, ()), ("store_as", "y"), ("fetch", "x")])
            self.assertEqual((self.desk.kept, self.desk.call_count), (["x", "y"], 3))
        self.assertEqual(full_look(self.desk), before)
        # Also for undo and redo.
        self.assertEqual((self.desk.redo(), self.desk.redo()), (True, False))
        self.assertEqual([self.desk.undo() for _ in range(4)], [True, True, True, False])

    def test_undo_and_redo_in_a_block(self):
        before = full_look(self.desk)
        with Trial(self.desk):
            self.desk.undo()
            self.desk.undo()
        self.assertEqual(full_look(self.desk), before)
        with Trial(self.desk):
            self.desk.redo()
        self.assertEqual(full_look(self.desk), before)

    def test_a_block_that_is_held(self):
        with Trial(self.desk) as trial:
            self.desk.act(REMOVE, ())
            self.assertIsNone(trial.hold())
            self.desk.act(PURGE, ())
        self.assertEqual(self.desk.history, [("store_as", "x"), ACT_UNPACK, ("act", REMOVE, ()), ("act", PURGE, ())])
        self.assertEqual((self.desk.redo(), self.desk.undo(), self.desk.system["lib"]), (False, True, ("left", 1, 0)))

    def test_blocks_that_an_error_leaves(self):
        before = full_look(self.desk)
        with self.assertRaises(ZeroDivisionError):
            with Trial(self.desk):
                self.desk.act(REMOVE, ())
                raise ZeroDivisionError
        self.assertEqual(full_look(self.desk), before)
        with self.assertRaises(Refused):
            with Trial(self.desk) as trial:
                self.desk.act(REMOVE, ())
                trial.hold()
                self.desk.act(SET_UP, ())
        self.assertEqual(self.desk.history, [("store_as", "x"), ACT_UNPACK, ("act", REMOVE, ())])

    def test_a_block_within_another(self):
        before = full_look(self.desk)
        for inner_held in (False, True):
            with Trial(self.desk):
                self.desk.act(REMOVE, ())
                with Trial(self.desk) as inner:
                    self.desk.act(PURGE, ())
                    if inner_held:
                        inner.hold()
                self.assertEqual(self.desk.system["lib"], ("absent", 0, 0) if inner_held else ("left", 1, 0))
            self.assertEqual(full_look(self.desk), before)
        with Trial(self.desk) as outer:
            self.desk.act(REMOVE, ())
            with Trial(self.desk):
                self.desk.act(PURGE, ())
                outer.hold()
        self.assertEqual(self.desk.history, [("store_as", "x"), ACT_UNPACK, ("act", REMOVE, ())])

    def test_the_beginning_is_that_of_the_block(self):
        trial = Trial(self.desk)
        trial.hold()
        self.desk.act(REMOVE, ())
        before = full_look(self.desk)
        with trial:
            self.desk.act(PURGE, ())
        self.assertEqual(full_look(self.desk), before)

    def test_apply_all_in_a_block(self):
        with Trial(self.desk) as trial:
            self.desk.act(REMOVE, ())
            with self.assertRaises(Refused):
                self.desk.apply_all([("act", PURGE, ()), ("act", PURGE, ())])
            self.assertEqual(self.desk.system["lib"], ("left", 1, 0))
            trial.hold()
        self.assertEqual(self.desk.system["lib"], ("left", 1, 0))


class TriedTest(unittest.TestCase):
    def test_what_is_kept_and_what_is_not(self):
        operations = [ACT_UNPACK, ("store_as", "x"), ("act", SET_UP, (0,)), ("undo",), ("undo",), ("redo",)]
        results = [1, False, 1, True, True, True]
        desk = Desk(one_package())
        desk.apply_all([("mend_all",), ("undo",)])
        before = full_look(desk)
        self.assertEqual(desk.tried(operations, False), results)
        self.assertEqual(full_look(desk), before)
        self.assertEqual(desk.tried(operations, True), results)
        self.assertEqual(full_look(desk), full_look(Desk.replay(one_package(), operations)))
        self.assertEqual(desk.history, operations[:2])

    def test_lists_may_be_modified(self):
        desk = Desk(one_package())
        operations = [ACT_UNPACK]
        desk.tried(operations, True).clear()
        self.assertEqual((operations, desk.history), ([ACT_UNPACK], [ACT_UNPACK]))


class ModelTest(unittest.TestCase):
    def test_as_a_second_model(self):
        chooser = random.Random(27)
        raised = set()
        for _ in range(60):
            system = random_states(chooser, random_store(chooser))
            desk, model = Desk(system), Model(system)
            for _ in range(40):
                operation = random_operation(chooser)
                try:
                    expected = model.execute(operation)
                except SetupError as error:
                    raised.add(type(error))
                    before = full_look(desk)
                    refused(lambda: desk.apply_all([operation]), type(error))
                    self.assertEqual(full_look(desk), before)
                else:
                    self.assertEqual(desk.apply_all([operation]), [expected])
                self.assertEqual(look(desk), model.look())
        self.assertEqual(raised, {Refused, UnknownKept})

    def test_lists_of_operations_as_a_second_model(self):
        chooser = random.Random(28)
        failed = []
        for _ in range(60):
            system = random_states(chooser, random_store(chooser))
            desk, model = Desk(system), Model(system)
            for _ in range(15):
                operations = [random_operation(chooser) for _ in range(chooser.randint(0, 4))]
                keep, saved = chooser.random() < 0.7, model.saved()
                try:
                    expected = [model.execute(operation) for operation in operations]
                except SetupError as error:
                    model.put_back(saved)
                    refused(lambda: desk.tried(operations, keep), type(error))
                    failed.append(True)
                else:
                    self.assertEqual(desk.tried(operations, keep), expected)
                    failed.append(False)
                    if not keep:
                        model.put_back(saved)
                self.assertEqual(look(desk), model.look())
        self.assertEqual(set(failed), {False, True})


if __name__ == "__main__":
    unittest.main()

"""Everything that the interface lists is defined in its file, with its arguments, and in its class itself."""

import importlib
import inspect
import unittest

FUNCTIONS = {
    "systems.is_sound": "(system)",
    "deeds.refusal": "(system, deed)",
    "running.run": "(system, deed, fails)",
    "running.all_runs": "(system, deed)",
    "courses.ends": "(system, deeds)",
    "courses.course_count": "(system, deeds)",
    "courses.fewest_failures": "(system, deeds, goal)",
    "sights.calls_of": "(system, deeds)",
    "sights.seen_by": "(system, deeds, name)",
    "reaching.reachable": "(system)",
    "ways.way": "(system, goal)",
    "ways.mend": "(system)",
    "sureness.surely": "(system, goal, failures)",
    "sureness.best_deed": "(system, goal, failures)",
    "layouts.rivals": "(layout)",
    "layouts.most_together": "(layout)",
    "trees.lost_paths": "(tree)",
    "diversions.placed": "(layout, diversions, key)",
    "diversions.crowded": "(layout, diversions)",
    "diversions.least_diversions": "(layout, keys)",
    "settings.settled": "(noted, present, new, answer)",
    "settings.settled_all": "(contents, edits, answer)",
    "settings.fewest_asked": "(contents, edits)",
    "orders.pending": "(system)",
    "orders.hopeless": "(system)",
    "orders.rings": "(system)",
    "orders.setup_order": "(system)",
    "orders.fewest_forced": "(system)",
    "faults.behind": "(system, deeds, faulty)",
    "faults.explained": "(system, deeds, later, most)",
    "faults.tells_apart": "(system, deeds, sets)",
    "faults.telling_deeds": "(system, sets, most)",
    "notation.format_system": "(system)",
    "notation.parse_system": "(text)",
    "codec.encode_system": "(system)",
    "codec.decode_system": "(values)",
    "scripts.run_script": "(system, text)",
}
# Each class with its arguments, its properties, its methods, and its operators.
CLASSES = {
    "editions.Edition": (
        "(name, version, *, scripts=('clean', 'enter', 'leave', 'setup'), needs=(), first=(), against=())",
        ("name", "version", "scripts", "needs", "first", "against"), {}, ("__eq__",)),
    "stores.Store": (
        "(editions)", ("names",), {"versions": "(self, name)"},
        ("__len__", "__getitem__", "__contains__", "__eq__")),
    "systems.System": (
        "(store, states)", ("store", "states"), {"with_state": "(self, name, state)"}, ("__getitem__", "__eq__")),
    "layouts.Layout": ("(store, files, takes)", ("store", "files", "takes"), {}, ("__eq__",)),
    "trees.Tree": ("(layout, system)", ("layout", "system", "owned"), {"after": "(self, deed)"}, ("__eq__",)),
    "desks.Desk": (
        "(system)", ("system", "call_count", "kept", "history"),
        {"act": "(self, deed, fails)", "mend_all": "(self)", "store_as": "(self, name)", "fetch": "(self, name)",
         "undo": "(self)", "redo": "(self)", "apply_all": "(self, operations)", "tried": "(self, operations, keep)",
         "replay": "(cls, system, operations)"}, ()),
    "desks.Trial": ("(desk)", (), {"hold": "(self)"}, ("__enter__", "__exit__")),
    "watches.Watch": (
        "(system, deed)", ("calls", "finished"),
        {"see": "(self, failed)", "next_call": "(self)", "could_end": "(self)", "most_left": "(self)",
         "fewest_left": "(self, state)"}, ()),
}
CLASS_METHODS = ("desks.Desk.replay",)


def found(path):
    module, name = path.split(".")
    return getattr(importlib.import_module(f"halfsetup.{module}"), name)


class InterfaceTest(unittest.TestCase):
    def assert_defined(self, path, signature):
        thing = found(path)
        self.assertEqual(f"{thing.__module__}.{thing.__name__}", f"halfsetup.{path}")
        self.assertEqual(str(inspect.signature(thing)), signature)

    def test_functions(self):
        for path, signature in FUNCTIONS.items():
            with self.subTest(path):
                self.assertTrue(inspect.isfunction(found(path)))
                self.assert_defined(path, signature)

    def test_classes(self):
        for path, (signature, properties, methods, operators) in CLASSES.items():
            with self.subTest(path):
                self.assert_defined(path, signature)
                own = vars(found(path))
                for name in properties:
                    self.assertIsInstance(own[name], property)
                for name in methods:
                    self.assertEqual(isinstance(own[name], classmethod), f"{path}.{name}" in CLASS_METHODS)
                    method = own[name].__func__ if isinstance(own[name], classmethod) else own[name]
                    self.assertEqual(str(inspect.signature(method)), methods[name])
                for name in operators:
                    self.assertTrue(inspect.isfunction(own[name]))


if __name__ == "__main__":
    unittest.main()

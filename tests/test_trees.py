"""Point 18: systems with their files."""

import random
import unittest

from halfsetup.deeds import refusal
from halfsetup.editions import Edition
from halfsetup.errors import InvalidTree, Refused, UnlikeStores
from halfsetup.layouts import Layout
from halfsetup.running import run
from halfsetup.stores import Store
from halfsetup.systems import System
from halfsetup.trees import Tree, lost_paths
from tests.samples import random_deed, random_layout, random_states, random_store

ABSENT = ("absent", 0, 0)
READY = ("ready", 1, 1)
DB, NEW_DB, LIB, WEB = ("db", 1), ("db", 2), ("lib", 1), ("web", 1)
STORE = Store((Edition("db", 1), Edition("db", 2), Edition("lib", 1), Edition("web", 1)))
# The second version of db has a path of lib and one of web, and one of its own.
FILES = {DB: (("a", 1), ("b", 2)), NEW_DB: (("b", 3), ("l", 4), ("w", 5)), LIB: (("l", 6),), WEB: (("v", 7), ("w", 8))}


def made_tree(states, takes=None, files=None, store=STORE):
    return Tree(Layout(store, FILES if files is None else files, takes or {}), System(store, states))


def why_refused(tree, deed):
    try:
        tree.after(deed)
    except Refused as error:
        return error.why
    return None


class TreeTest(unittest.TestCase):
    def test_the_interface_examples(self):
        store = Store((Edition("db", 1), Edition("db", 2), Edition("lib", 1)))
        files = {("db", 1): (("run", 2),), ("db", 2): (("conf", 3), ("run", 9)), ("lib", 1): (("run", 5),)}
        tree = Tree(Layout(store, files, {("db", 2): ("lib",)}), System(store, {"lib": ("ready", 1, 1)}))
        later = tree.after(("unpack", "db", 2))
        self.assertEqual([later.owned, later.system["lib"], lost_paths(later)],
                         [{"conf": ("db", 3), "run": ("db", 9)}, ("absent", 0, 0), []])
        store = Store((Edition("db", 1), Edition("lib", 1)))
        files = {("db", 1): (("run", 2),), ("lib", 1): (("run", 5),)}
        tree = Tree(Layout(store, files, {}), System(store, {"lib": ("ready", 1, 1)}))
        self.assertEqual(why_refused(tree, ("unpack", "db", 1)), ("file", "run", "lib"))

    def test_the_properties(self):
        layout = Layout(STORE, FILES, {})
        system = System(STORE, {"web": READY, "db": READY})
        tree = Tree(layout, system)
        self.assertEqual((tree.layout, tree.system), (layout, system))
        self.assertEqual(list(tree.owned.items()), [("a", ("db", 1)), ("b", ("db", 2)), ("v", ("web", 7)),
                                                    ("w", ("web", 8))])
        tree.owned.clear()
        self.assertEqual(len(tree.owned), 4)

    def test_which_packages_have_files_at_first(self):
        for status in ("failed", "ready", "unpacked"):
            tree = made_tree({"db": (status, 2, 2)})
            self.assertEqual(tree.owned, {"b": ("db", 3), "l": ("db", 4), "w": ("db", 5)})
        # The version of the state counts, not the one that was set up last.
        self.assertEqual(made_tree({"db": ("unpacked", 1, 2)}).owned, {"a": ("db", 1), "b": ("db", 2)})
        for state in (("half", 1, 1), ("half", 2, 0), ("left", 1, 1), ABSENT):
            self.assertEqual(made_tree({"db": state}).owned, {})

    def test_editions_without_an_entry_have_no_files(self):
        self.assertEqual(made_tree({"db": READY, "lib": READY}, files={LIB: ()}).owned, {})

    def test_two_packages_would_have_a_path(self):
        files = {DB: (("p", 1), ("r", 1), ("t", 1)), LIB: (("q", 1), ("r", 2), ("t", 2)), WEB: (("q", 3),)}
        for states, path in (({"db": READY, "lib": READY}, "r"), ({"lib": READY, "web": READY}, "q"),
                             ({"db": READY, "lib": ("failed", 1, 0), "web": ("unpacked", 1, 0)}, "q")):
            # Also if one of them takes files over from the other one.
            for takes in ({}, {DB: ("lib",), LIB: ("db", "web")}):
                with self.assertRaises(InvalidTree) as caught:
                    made_tree(states, takes, files)
                self.assertEqual(caught.exception.path, path)
        for other in (("half", 1, 1), ("left", 1, 0), ABSENT):
            self.assertEqual(len(made_tree({"db": READY, "lib": other}, files=files).owned), 3)

    def test_unlike_stores_come_first(self):
        files = {DB: (("p", 1),), LIB: (("p", 1),)}
        other = Store((Edition("db", 1), Edition("lib", 1)))
        states = {"db": READY, "lib": READY}
        with self.assertRaises(InvalidTree):
            Tree(Layout(other, files, {}), System(other, states))
        for store in (STORE, Store((Edition("db", 1), Edition("lib", 1, scripts=())))):
            with self.assertRaises(UnlikeStores):
                Tree(Layout(other, files, {}), System(store, states))
        turned = Store((Edition("lib", 1), Edition("db", 1)))
        self.assertEqual(Tree(Layout(other, {}, {}), System(turned, states)).owned, {})

    def test_equality(self):
        tree = made_tree({"lib": READY})
        self.assertTrue(tree == made_tree({"lib": READY}))
        self.assertFalse(tree != made_tree({"lib": READY}))
        for other in (made_tree({"lib": ("unpacked", 1, 1)}), made_tree({}), made_tree({"lib": READY}, {DB: ()}),
                      made_tree({"lib": READY}, files={LIB: (("l", 7),)})):
            self.assertTrue(tree != other)
        self.assertFalse(tree == tree.system)

    def test_trees_with_other_files_are_not_equal(self):
        # The package db needs lib, so lib stays there, though its files are taken over and are removed then.
        store = Store((Edition("db", 1, needs=(("lib", 1),)), Edition("lib", 1), Edition("web", 1)))
        states = {"db": READY, "lib": READY}
        tree = made_tree(states, {WEB: ("lib",)}, {LIB: (("l", 1),), WEB: (("l", 2),)}, store)
        later = tree.after(("unpack", "web", 1)).after(("remove", "web")).after(("purge", "web"))
        self.assertEqual((later.system, later.layout), (tree.system, tree.layout))
        self.assertEqual((tree.owned, later.owned), ({"l": ("lib", 1)}, {}))
        self.assertFalse(tree == later)
        self.assertTrue(later == tree.after(("unpack", "web", 1)).after(("remove", "web")).after(("purge", "web")))


class AfterTest(unittest.TestCase):
    def test_an_unpack_of_what_is_absent(self):
        later = made_tree({"lib": READY}).after(("unpack", "db", 1))
        self.assertEqual(later.system["db"], ("unpacked", 1, 0))
        self.assertEqual(list(later.owned.items()), [("a", ("db", 1)), ("b", ("db", 2)), ("l", ("lib", 6))])

    def test_an_unpack_of_another_version(self):
        later = made_tree({"db": READY}).after(("unpack", "db", 2))
        self.assertEqual(later.system["db"], ("unpacked", 2, 1))
        self.assertEqual(later.owned, {"b": ("db", 3), "l": ("db", 4), "w": ("db", 5)})
        back = later.after(("unpack", "db", 1))
        self.assertEqual(back.owned, {"a": ("db", 1), "b": ("db", 2)})
        self.assertEqual(back.system["db"], ("unpacked", 1, 1))

    def test_an_unpack_of_what_is_half_or_left(self):
        for status in ("half", "left"):
            later = made_tree({"db": (status, 1, 1)}).after(("unpack", "db", 1))
            self.assertEqual(later.owned, {"a": ("db", 1), "b": ("db", 2)})

    def test_a_package_that_drops_its_own_files_does_not_vanish(self):
        tree = made_tree({"db": READY}, files={DB: (("a", 1),)})
        later = tree.after(("unpack", "db", 2))
        self.assertEqual((later.owned, later.system["db"]), ({}, ("unpacked", 2, 1)))

    def test_a_remove_a_setup_and_a_purge(self):
        tree = made_tree({"db": ("unpacked", 1, 0), "lib": READY})
        ready = tree.after(("setup", "db"))
        self.assertEqual((ready.owned, ready.system["db"]), (tree.owned, READY))
        gone = ready.after(("remove", "db"))
        self.assertEqual((gone.owned, gone.system["db"]), ({"l": ("lib", 6)}, ("left", 1, 1)))
        purged = gone.after(("purge", "db"))
        self.assertEqual((purged.owned, purged.system["db"]), ({"l": ("lib", 6)}, ABSENT))
        self.assertEqual(made_tree({"db": ("half", 1, 0)}).after(("remove", "db")).owned, {})

    def test_no_call_fails(self):
        tree = made_tree({"lib": READY})
        for deed in (("unpack", "db", 1), ("remove", "lib")):
            self.assertEqual(tree.after(deed).system, run(tree.system, deed, ())[0])

    def test_taking_over_all_files_of_one_package(self):
        later = made_tree({"lib": READY}, {NEW_DB: ("lib",)}).after(("unpack", "db", 2))
        self.assertEqual(later.system.states, {"db": ("unpacked", 2, 0), "lib": ABSENT, "web": ABSENT})
        self.assertEqual(later.owned, {"b": ("db", 3), "l": ("db", 4), "w": ("db", 5)})

    def test_taking_over_some_files_of_one_package(self):
        later = made_tree({"web": READY}, {NEW_DB: ("web",)}).after(("unpack", "db", 2))
        self.assertEqual(later.system["web"], READY)
        self.assertEqual(later.owned, {"b": ("db", 3), "l": ("db", 4), "v": ("web", 7), "w": ("db", 5)})
        self.assertEqual(lost_paths(later), [("w", "web")])

    def test_taking_over_the_last_file_later(self):
        store = Store((Edition("a", 1), Edition("b", 1), Edition("c", 1)))
        files = {("a", 1): (("p", 1), ("q", 1)), ("b", 1): (("p", 2),), ("c", 1): (("q", 3),)}
        tree = made_tree({"a": READY}, {("b", 1): ("a",), ("c", 1): ("a",)}, files, store).after(("unpack", "b", 1))
        self.assertEqual(tree.system["a"], READY)
        tree = tree.after(("unpack", "c", 1))
        self.assertEqual(tree.system["a"], ABSENT)
        self.assertEqual(tree.owned, {"p": ("b", 2), "q": ("c", 3)})

    def test_taking_over_all_files_of_two_packages(self):
        files = {**FILES, WEB: (("w", 8),)}
        for status in ("failed", "ready", "unpacked"):
            tree = made_tree({"lib": (status, 1, 1), "web": (status, 1, 1)}, {NEW_DB: ("lib", "web")}, files)
            later = tree.after(("unpack", "db", 2))
            self.assertEqual(later.system.states, {"db": ("unpacked", 2, 0), "lib": ABSENT, "web": ABSENT})

    def test_packages_that_had_no_files_do_not_vanish(self):
        for state in (("half", 1, 1), ("left", 1, 1)):
            later = made_tree({"lib": state}, {NEW_DB: ("lib", "web")}).after(("unpack", "db", 2))
            self.assertEqual(later.system["lib"], state)
        later = made_tree({"lib": READY}, {NEW_DB: ("lib",)}, {NEW_DB: FILES[NEW_DB]}).after(("unpack", "db", 2))
        self.assertEqual(later.system["lib"], READY)

    def test_a_package_that_is_needed_does_not_vanish(self):
        files = {DB: (("l", 1),), LIB: (("l", 6),)}
        for status, expected in (("ready", READY), ("unpacked", ABSENT), ("failed", ABSENT), ("half", ABSENT),
                                 ("left", ABSENT)):
            store = Store((Edition("db", 1), Edition("lib", 1), Edition("web", 1, needs=(("lib", 1),))))
            later = made_tree({"lib": READY, "web": (status, 1, 1)}, {DB: ("lib",)}, files, store).after(
                ("unpack", "db", 1))
            self.assertEqual(later.system["lib"], expected)
            self.assertEqual(later.owned, {"l": ("db", 1)})
            self.assertEqual(lost_paths(later), [("l", "lib")] if expected == READY else [])

    def test_the_needs_of_the_edition_that_is_ready_count(self):
        store = Store((Edition("db", 1), Edition("lib", 1), Edition("web", 1, needs=(("lib", 9),)), Edition("web", 2)))
        files = {DB: (("l", 1),), LIB: (("l", 6),)}
        for version, expected in ((1, READY), (2, ABSENT)):
            tree = made_tree({"lib": READY, "web": ("ready", version, version)}, {DB: ("lib",)}, files, store)
            self.assertEqual(tree.after(("unpack", "db", 1)).system["lib"], expected)
        # What is needed first does not count.
        store = Store((Edition("db", 1), Edition("lib", 1), Edition("web", 1, first=(("lib", 1),))))
        tree = made_tree({"lib": READY, "web": READY}, {DB: ("lib",)}, files, store)
        self.assertEqual(tree.after(("unpack", "db", 1)).system["lib"], ABSENT)

    def test_the_package_that_is_unpacked_is_not_ready_any_more(self):
        store = Store((Edition("db", 1, needs=(("lib", 1),)), Edition("db", 2, needs=(("lib", 1),)), Edition("lib", 1)))
        tree = made_tree({"db": READY, "lib": READY}, {NEW_DB: ("lib",)}, {NEW_DB: (("l", 1),), LIB: (("l", 6),)}, store)
        self.assertEqual(tree.after(("unpack", "db", 2)).system["lib"], ABSENT)

    def test_what_vanishes_still_needs_others(self):
        store = Store((Edition("db", 1), Edition("lib", 1), Edition("web", 1, needs=(("lib", 1),))))
        files = {DB: (("l", 1), ("w", 1)), LIB: (("l", 6),), WEB: (("w", 8),)}
        tree = made_tree({"lib": READY, "web": READY}, {DB: ("lib", "web")}, files, store)
        later = tree.after(("unpack", "db", 1))
        self.assertEqual(later.system.states, {"db": ("unpacked", 1, 0), "lib": READY, "web": ABSENT})
        # If each needs the other one, both stay.
        store = Store((Edition("db", 1), Edition("lib", 1, needs=(("web", 1),)), store[WEB]))
        later = made_tree({"lib": READY, "web": READY}, {DB: ("lib", "web")}, files, store).after(("unpack", "db", 1))
        self.assertEqual(later.system.states, {"db": ("unpacked", 1, 0), "lib": READY, "web": READY})
        self.assertEqual(lost_paths(later), [("l", "lib"), ("w", "web")])

    def test_a_remove_takes_only_what_the_package_still_has(self):
        tree = made_tree({"web": READY}, {NEW_DB: ("web",)}).after(("unpack", "db", 2))
        self.assertEqual(tree.after(("remove", "web")).owned, {"b": ("db", 3), "l": ("db", 4), "w": ("db", 5)})
        self.assertEqual(tree.after(("remove", "db")).owned, {"v": ("web", 7)})
        # What was taken over does not come back.
        self.assertEqual(tree.after(("unpack", "db", 1)).owned, {"a": ("db", 1), "b": ("db", 2), "v": ("web", 7)})

    def test_trees_are_not_modified(self):
        tree = made_tree({"web": READY, "lib": READY}, {NEW_DB: ("lib", "web")})
        for deed in (("unpack", "db", 2), ("remove", "web"), ("unpack", "db", 1)):
            self.assertEqual(tree.after(deed), tree.after(deed))
            tree.after(deed).owned.clear()
        self.assertEqual(tree, made_tree({"web": READY, "lib": READY}, {NEW_DB: ("lib", "web")}))


class RefusedTest(unittest.TestCase):
    def test_the_least_path_that_another_package_has(self):
        tree = made_tree({"lib": READY, "web": READY})
        deed = ("unpack", "db", 2)
        self.assertEqual(why_refused(tree, deed), ("file", "l", "lib"))
        self.assertEqual(why_refused(made_tree({"lib": READY, "web": READY}, {NEW_DB: ("lib",)}), deed),
                         ("file", "w", "web"))
        self.assertEqual(why_refused(made_tree({"lib": READY, "web": READY}, {NEW_DB: ("web",)}), deed),
                         ("file", "l", "lib"))
        self.assertIsNone(why_refused(made_tree({"lib": READY, "web": READY}, {NEW_DB: ("lib", "web")}), deed))

    def test_taking_over_goes_in_one_direction(self):
        for takes in ({LIB: ("db",)}, {DB: ("lib",)}):
            self.assertEqual(why_refused(made_tree({"lib": READY}, takes), ("unpack", "db", 2)), ("file", "l", "lib"))
        self.assertEqual(why_refused(made_tree({"db": ("ready", 2, 2)}, {NEW_DB: ("lib",)}), ("unpack", "lib", 1)),
                         ("file", "l", "db"))

    def test_what_a_package_lost_is_no_hindrance(self):
        # The package db has the path w of web now.
        tree = made_tree({"web": READY}, {NEW_DB: ("web",)}).after(("unpack", "db", 2))
        store = Store((Edition("db", 1), Edition("lib", 1), Edition("web", 1)))
        self.assertEqual(why_refused(tree.after(("remove", "web")), ("unpack", "web", 1)), ("file", "w", "db"))
        files = {DB: (("v", 1),), LIB: (("w", 1),), WEB: (("v", 2), ("w", 2))}
        takes = {DB: ("web",), LIB: ("db",)}
        tree = made_tree({"web": READY}, takes, files, store).after(("unpack", "db", 1)).after(("remove", "db"))
        self.assertEqual(why_refused(tree, ("unpack", "lib", 1)), ("file", "w", "web"))
        self.assertIsNone(why_refused(tree, ("unpack", "db", 1)))
        self.assertEqual(tree.owned, {"w": ("web", 2)})

    def test_packages_that_are_half_or_left_are_no_hindrance(self):
        for state in (("half", 1, 1), ("left", 1, 1)):
            self.assertIsNone(why_refused(made_tree({"lib": state}), ("unpack", "db", 2)))

    def test_other_refusals_come_first(self):
        store = Store((Edition("a", 1, first=(("x", 1),)), Edition("a", 2, against=("b",)),
                       Edition("a", 3), Edition("b", 1)))
        files = {("a", version): (("p", 1),) for version in (1, 2, 3)}
        tree = made_tree({"b": READY}, files={**files, ("b", 1): (("p", 2),)}, store=store)
        for version, why in ((1, ("first", "x")), (2, ("against", "b")), (3, ("file", "p", "b")), (4, ("unknown",))):
            self.assertEqual(why_refused(tree, ("unpack", "a", version)), why)
        # The package a has its version 3 without the path of b, which b took over.
        takes = {("b", 1): ("a",)}
        files = {("a", 3): (("p", 1), ("q", 1)), ("b", 1): (("p", 2),)}
        tree = made_tree({"a": ("ready", 3, 3)}, takes, files, store).after(("unpack", "b", 1))
        self.assertEqual(why_refused(tree, ("unpack", "a", 3)), ("same",))

    def test_refusals_of_other_deeds(self):
        tree = made_tree({"lib": READY})
        for deed in (("setup", "lib"), ("setup", "x"), ("purge", "lib"), ("remove", "web"), ("remove", "x"),
                     ("unpack", "lib", 1), ("unpack", "x", 1), ("unpack", "lib", 7)):
            self.assertEqual(why_refused(tree, deed), refusal(tree.system, deed))
            self.assertIsNotNone(why_refused(tree, deed))


class LostTest(unittest.TestCase):
    def test_nothing_is_lost_at_first(self):
        for state in (READY, ("failed", 1, 0), ("unpacked", 1, 0), ("half", 1, 0), ("left", 1, 0), ABSENT):
            self.assertEqual(lost_paths(made_tree({"web": state})), [])

    def test_paths_that_are_removed_with_the_one_that_took_them_over(self):
        tree = made_tree({"web": READY}, {NEW_DB: ("web",)}).after(("unpack", "db", 2)).after(("remove", "db"))
        self.assertEqual(lost_paths(tree), [("w", "web")])
        self.assertEqual(lost_paths(tree.after(("remove", "web"))), [])

    def test_several_ascend_by_paths(self):
        store = Store((Edition("a", 1), Edition("b", 1), Edition("c", 1)))
        files = {("a", 1): (("p", 1), ("x", 1), ("z", 1)), ("b", 1): (("q", 1), ("y", 1)),
                 ("c", 1): (("q", 2), ("x", 2), ("z", 2))}
        tree = made_tree({"a": READY, "b": READY}, {("c", 1): ("a", "b")}, files, store).after(("unpack", "c", 1))
        self.assertEqual(lost_paths(tree), [("q", "b"), ("x", "a"), ("z", "a")])
        lost_paths(tree).clear()
        self.assertEqual(len(lost_paths(tree)), 3)


class Model:
    """A tree as a dict of the files of each package."""

    def __init__(self, layout, system):
        self.layout, self.system = layout, system
        self.files = {name: self.edition_files(name) for name in system.store.names}

    def edition_files(self, name):
        status, version, done = self.system[name]
        whole = status in ("failed", "ready", "unpacked")
        return dict(self.layout.files.get((name, version), ())) if whole else {}

    def doubled(self):
        paths = [path for files in self.files.values() for path in files]
        return sorted(path for path in set(paths) if paths.count(path) > 1)

    def act(self, deed):
        """Do a deed, or return why it cannot begin."""
        why = refusal(self.system, deed) or (self.hindrance(deed) if deed[0] == "unpack" else None)
        if why:
            return why
        self.system = run(self.system, deed, ())[0]
        had = [name for name in self.files if self.files[name]]
        if deed[0] in ("unpack", "remove"):
            self.files[deed[1]] = self.edition_files(deed[1])
        if deed[0] == "unpack":
            others = [name for name in self.files if name != deed[1]]
            for name in others:
                for path in self.files[deed[1]]:
                    self.files[name].pop(path, None)
            self.vanish([name for name in others if name in had and not self.files[name]])
        return None

    def hindrance(self, deed):
        kind, name, version = deed
        for path, content in self.layout.files.get((name, version), ()):
            for other in self.files:
                if other not in (name, *self.layout.takes.get((name, version), ())) and path in self.files[other]:
                    return ("file", path, other)
        return None

    def vanish(self, names):
        system = self.system
        for name in names:
            needing = [other for other in system.store.names if system[other][0] == "ready"
                       and name in dict(system.store[(other, system[other][1])].needs)]
            if not needing:
                self.system = self.system.with_state(name, ABSENT)

    def owned(self):
        return sorted((path, (name, files[path])) for name, files in self.files.items() for path in files)

    def lost(self):
        return sorted((path, name) for name in self.files for path in self.edition_files(name)
                      if path not in self.files[name])


class ModelTest(unittest.TestCase):
    def test_many_deeds(self):
        chooser = random.Random(19)
        told = set()
        for _ in range(1500):
            store = random_store(chooser, "abc", 0.8)
            layout, system = random_layout(chooser, store, "pqr"), random_states(chooser, store)
            model = Model(layout, system)
            if model.doubled():
                with self.assertRaises(InvalidTree) as caught:
                    Tree(layout, system)
                self.assertEqual(caught.exception.path, model.doubled()[0])
                continue
            tree = Tree(layout, system)
            for _ in range(12):
                deed = random_deed(chooser, "abc")
                why = model.act(deed)
                self.assertEqual(why_refused(tree, deed), why)
                if why:
                    told.add(why[0])
                else:
                    before, tree = tree, tree.after(deed)
                    told.add(deed[0])
                    if deed[0] == "unpack":
                        told |= set(self.told_of_others(before, tree, deed[1]))
                self.assertEqual(tree.system, model.system)
                self.assertEqual(list(tree.owned.items()), model.owned())
                self.assertEqual(lost_paths(tree), model.lost())
        self.assertLessEqual({"file", "first", "against", "same", "needs", "needed", "status", "unknown", "unpack",
                              "setup", "remove", "purge", "vanished", "kept"}, told)

    def told_of_others(self, before, tree, unpacked):
        """Which packages lost their last file by an unpack, and whether they vanished."""
        had, has = ({name for name, content in one.owned.values()} for one in (before, tree))
        return ["vanished" if tree.system[name] == ABSENT else "kept" for name in had - has - {unpacked}]


if __name__ == "__main__":
    unittest.main()

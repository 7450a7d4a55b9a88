"""Point 27: a deed that is watched, call by call."""

import random
import unittest

from halfsetup.editions import Edition
from halfsetup.errors import NoCall, Refused
from halfsetup.running import all_runs
from halfsetup.stores import Store
from halfsetup.systems import System
from halfsetup.watches import Watch
from tests.samples import deeds_of, one_package, random_system

UPGRADE = System(Store((Edition("db", 1), Edition("db", 2))), {"db": ("ready", 1, 1)})
ENTER, CLEAN = ("lib", 1, "enter", "install", 0), ("lib", 1, "clean", "abort-install", 0)


def all_states(system, name):
    """All states that a package of a system can have."""
    versions = system.store.versions(name)
    states = [(status, version, done) for status in ("failed", "half", "left", "unpacked") for version in versions
              for done in (0, *versions)]
    return [("absent", 0, 0), *states, *[("ready", version, version) for version in versions]]


class WatchTest(unittest.TestCase):
    def test_the_interface_example(self):
        system = System(Store((Edition("db", 1), Edition("db", 2))), {"db": ("ready", 1, 1)})
        watch = Watch(system, ("unpack", "db", 2))
        self.assertEqual(
            [watch.see(True), watch.next_call(), watch.fewest_left(("failed", 1, 1)), watch.most_left(), watch.finished],
            [("db", 1, "leave", "upgrade", 2), ("db", 2, "leave", "failed-upgrade", 1), 2, 7, False])

    def test_refused(self):
        for deed, why in ((("setup", "lib"), ("status",)), (("unpack", "lib", 2), ("unknown",)),
                          (("purge", "web"), ("unknown",))):
            with self.assertRaises(Refused) as caught:
                Watch(one_package(), deed)
            self.assertEqual(caught.exception.why, why)

    def test_before_the_first_call(self):
        watch = Watch(one_package(), ("unpack", "lib", 1))
        self.assertEqual((watch.calls, watch.finished, watch.next_call()), ([], False, ENTER))
        self.assertEqual(watch.could_end(), [("absent", 0, 0), ("half", 1, 0), ("unpacked", 1, 0)])
        self.assertEqual(watch.most_left(), 2)
        self.assertEqual([watch.fewest_left(state) for state in watch.could_end()], [1, 2, 0])

    def test_calls_that_fail_and_do_not(self):
        watch = Watch(one_package(), ("unpack", "lib", 1))
        self.assertEqual(watch.see(True), ENTER)
        self.assertEqual((watch.calls, watch.finished, watch.next_call()), ([(ENTER, True)], False, CLEAN))
        self.assertEqual((watch.could_end(), watch.most_left()), ([("absent", 0, 0), ("half", 1, 0)], 1))
        self.assertEqual([watch.fewest_left(("absent", 0, 0)), watch.fewest_left(("half", 1, 0))], [0, 1])
        self.assertEqual(watch.see(False), CLEAN)
        self.assertEqual((watch.calls, watch.finished, watch.next_call()), ([(ENTER, True), (CLEAN, False)], True, None))
        self.assertEqual((watch.could_end(), watch.most_left()), ([("absent", 0, 0)], 0))

    def test_a_state_that_cannot_come_any_more(self):
        watch = Watch(one_package(), ("unpack", "lib", 1))
        self.assertEqual(watch.fewest_left(("ready", 1, 1)), None)
        self.assertEqual(watch.fewest_left(("unpacked", 1, 0)), 0)
        watch.see(True)
        self.assertEqual(watch.fewest_left(("unpacked", 1, 0)), None)
        watch.see(True)
        self.assertEqual(watch.fewest_left(("absent", 0, 0)), None)
        self.assertEqual(watch.fewest_left(("half", 1, 0)), 0)

    def test_see_behind_the_last_call(self):
        for failed in (False, True):
            watch = Watch(one_package().with_state("lib", ("unpacked", 1, 0)), ("setup", "lib"))
            call = watch.see(failed)
            before = (watch.calls, watch.finished, watch.next_call(), watch.could_end(), watch.most_left())
            self.assertEqual(before, ([(call, failed)], True, None, [("failed", 1, 0) if failed else ("ready", 1, 1)], 0))
            for again in (False, True):
                with self.assertRaises(NoCall):
                    watch.see(again)
                self.assertEqual((watch.calls, watch.finished, watch.next_call(), watch.could_end(), watch.most_left()),
                                 before)

    def test_a_deed_that_makes_no_call(self):
        for system, deed, state in ((one_package(1, ()), ("unpack", "lib", 1), ("unpacked", 1, 0)),
                                    (one_package(1, ("enter",)).with_state("lib", ("left", 1, 1)), ("purge", "lib"),
                                     ("absent", 0, 0))):
            watch = Watch(system, deed)
            self.assertEqual((watch.calls, watch.finished, watch.next_call()), ([], True, None))
            self.assertEqual((watch.could_end(), watch.most_left(), watch.fewest_left(state)), ([state], 0, 0))
            self.assertEqual(watch.fewest_left(("half", 1, 0)), None)
            with self.assertRaises(NoCall):
                watch.see(False)

    def test_a_state_may_stay_in_several_ways(self):
        watch = Watch(UPGRADE, ("unpack", "db", 2))
        self.assertEqual(watch.fewest_left(("ready", 1, 1)), 1)
        watch.see(False)
        watch.see(False)
        # Now both have to fail to clean.
        self.assertEqual(watch.fewest_left(("ready", 1, 1)), 2)
        self.assertEqual(watch.fewest_left(("failed", 1, 1)), None)

    def test_lists_may_be_modified_and_the_system_stays(self):
        watch = Watch(UPGRADE, ("unpack", "db", 2))
        watch.see(True)
        watch.calls.clear()
        watch.could_end().clear()
        self.assertEqual(watch.calls, [(("db", 1, "leave", "upgrade", 2), True)])
        self.assertEqual(len(watch.could_end()), 5)
        self.assertEqual(UPGRADE["db"], ("ready", 1, 1))

    def test_watches_do_not_share_anything(self):
        one, other = Watch(UPGRADE, ("unpack", "db", 2)), Watch(UPGRADE, ("unpack", "db", 2))
        one.see(True)
        self.assertEqual((other.calls, len(one.calls)), ([], 1))

    def test_what_all_runs_with_the_seen_calls_tell(self):
        chooser = random.Random(29)
        watched = [(UPGRADE, ("unpack", "db", 2)), (UPGRADE.with_state("db", ("failed", 1, 0)), ("unpack", "db", 2)),
                   (UPGRADE.with_state("db", ("unpacked", 2, 1)), ("unpack", "db", 1)), (UPGRADE, ("remove", "db"))]
        for _ in range(60):
            system = random_system(chooser)
            watched += [(system, deed) for deed in deeds_of(system)]
        for system, deed in watched:
            runs = all_runs(system, deed)
            for fails, later, calls in runs:
                watch = Watch(system, deed)
                for seen in range(len(calls) + 1):
                    with self.subTest((system.states, deed, calls[:seen])):
                        fitting = [one for one in runs if one[2][:seen] == calls[:seen]]
                        self.assert_tells(watch, system, deed[1], fitting, seen)
                    if seen < len(calls):
                        self.assertEqual(watch.see(calls[seen][1]), calls[seen][0])

    def assert_tells(self, watch, system, name, fitting, seen):
        """Check that a watch tells what the runs do that begin with the seen calls."""
        nexts = {calls[seen][0] if len(calls) > seen else None for fails, later, calls in fitting}
        self.assertEqual(nexts, {watch.next_call()})
        self.assertEqual(watch.calls, fitting[0][2][:seen])
        self.assertIs(watch.finished, nexts == {None})
        self.assertEqual(watch.could_end(), sorted({later[name] for fails, later, calls in fitting}))
        self.assertEqual(watch.most_left(), max(len(calls) for fails, later, calls in fitting) - seen)
        for state in all_states(system, name):
            numbers = [sum(failed for call, failed in calls[seen:])
                       for fails, later, calls in fitting if later[name] == state]
            self.assertEqual(watch.fewest_left(state), min(numbers) if numbers else None)


if __name__ == "__main__":
    unittest.main()

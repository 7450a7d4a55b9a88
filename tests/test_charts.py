"""Charts: what points 14 to 16 look up."""

import random
import unittest

from halfsetup.charts import Chart, all_deeds
from halfsetup.deeds import refusal
from halfsetup.editions import Edition
from halfsetup.running import all_runs, run
from halfsetup.stores import Store
from halfsetup.systems import System, is_sound, order_key
from tests.samples import deeds_of, random_states, random_store


class ChartTest(unittest.TestCase):
    def test_all_deeds_ascend(self):
        store = Store((Edition("lib", 10), Edition("lib", 9), Edition("db", 2)))
        self.assertEqual(all_deeds(store), [
            ("purge", "db"), ("purge", "lib"), ("remove", "db"), ("remove", "lib"), ("setup", "db"), ("setup", "lib"),
            ("unpack", "db", 2), ("unpack", "lib", 9), ("unpack", "lib", 10)])

    def test_a_chart_answers_as_the_system_does(self):
        chooser = random.Random(6)
        for _ in range(40):
            store = random_store(chooser)
            chart = Chart(store)
            # Many systems in one chart, so that answers for one are looked up for others.
            for _ in range(40):
                system = random_states(chooser, store)
                key = order_key(system)
                self.assertEqual(chart.system_at(key), system)
                self.assertEqual(chart.deeds_at(key), deeds_of(system))
                self.assertEqual(chart.sound_at(key), is_sound(system))
                for deed in deeds_of(system):
                    self.assert_ends(chart, system, deed)

    def assert_ends(self, chart, system, deed):
        key = order_key(system)
        fewest = {}
        for fails, later, calls in all_runs(system, deed):
            fewest.setdefault(order_key(later), []).append(len(fails))
        found = chart.ends_behind(key, deed)
        self.assertEqual(sorted(found), sorted((end, min(fewest[end])) for end in fewest))
        self.assertEqual(found[0], (order_key(run(system, deed, ())[0]), 0))
        self.assertEqual(chart.plain_end(key, deed), found[0][0])
        self.assertFalse([end for end, failures in found[1:] if failures == 0])

    def test_what_was_set_up_last_does_not_matter_to_refusals(self):
        store = Store((Edition("a", 1, needs=(("b", 2),), first=(("b", 1),)), Edition("b", 1), Edition("b", 2)))
        for done in (0, 1, 2):
            system = System(store, {"a": ("unpacked", 1, 1), "b": ("failed", 2, done)})
            self.assertEqual(refusal(system, ("setup", "a")), ("needs", "b"))
            self.assertEqual(Chart(store).deeds_at(order_key(system)), deeds_of(system))


if __name__ == "__main__":
    unittest.main()

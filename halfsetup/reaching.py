"""Reaching: which systems can be come to at all."""

from halfsetup.charts import Chart
from halfsetup.errors import TooMany
from halfsetup.systems import order_key

MOST_SYSTEMS = 5000


def keys_behind(chart, key):
    """Return the list of the keys that come of one deed, whatever fails."""
    return [later for deed in chart.deeds_at(key) for later, failures in chart.ends_behind(key, deed)]


def reachable_keys(chart, key):
    """Return the ascending list of the keys of all systems that can be come to."""
    found = {key: True}
    waiting = [key]
    while waiting:
        present = waiting.pop()
        for later in keys_behind(chart, present):
            if later not in found:
                found[later] = True
                waiting.append(later)
        if len(found) > MOST_SYSTEMS:
            raise TooMany(f"more than {MOST_SYSTEMS} systems can be come to")
    return sorted(found)


def reachable(system):
    """Return the ascending list of all systems that can be come to by any deeds, whatever fails."""
    chart = Chart(system.store)
    return [chart.system_at(key) for key in reachable_keys(chart, order_key(system))]

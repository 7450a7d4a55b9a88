"""Ways: the shortest lists of deeds to a system, if no call fails."""

from halfsetup.charts import Chart
from halfsetup.stores import check_alike
from halfsetup.systems import order_key


class Search:
    """Finds keys in the order of their least shortest ways."""

    def __init__(self, chart, key):
        self.held_chart = chart
        # From each key that was found to the one before it on its way, and the deed between them.
        self.origins = {key: None}
        self.farthest = [key]

    def go_on(self):
        """Find all keys that are one deed farther away."""
        later = []
        # The keys stand in the order of their ways, and the deeds ascend: so the first way to a key is the least.
        for key in self.farthest:
            for deed in self.held_chart.deeds_at(key):
                end = self.held_chart.plain_end(key, deed)
                if end not in self.origins:
                    self.origins[end] = (key, deed)
                    later.append(end)
        self.farthest = later

    def deeds_to(self, key):
        """Return the list of deeds on the way to a key that was found."""
        deeds = []
        origin = self.origins[key]
        while origin is not None:
            before, deed = origin
            deeds.append(deed)
            origin = self.origins[before]
        return deeds[::-1]


def first_way(chart, key, is_goal):
    """Return a tuple of the least shortest list of deeds to a goal, and this one's key, or None."""
    search = Search(chart, key)
    while search.farthest:
        for end in search.farthest:
            if is_goal(end):
                return (search.deeds_to(end), end)
        search.go_on()
    return None


def way(system, goal):
    """Return the shortest list of deeds that leads to the goal if no call fails, or None."""
    check_alike(system.store, goal.store)
    goal_key = order_key(goal)
    found = first_way(Chart(system.store), order_key(system), lambda key: key == goal_key)
    return None if found is None else found[0]


def mend(system):
    """Return a tuple of the shortest list of deeds that leads to a sound system, and this system, or None."""
    chart = Chart(system.store)
    found = first_way(chart, order_key(system), lambda key: chart.sound_at(key))
    return None if found is None else (found[0], chart.system_at(found[1]))

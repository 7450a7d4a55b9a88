"""Courses: what can come of a list of deeds, whatever fails."""

from halfsetup.deeds import refusal
from halfsetup.running import all_runs
from halfsetup.stores import check_alike
from halfsetup.systems import order_key


def outcomes(system, deed):
    """Return tuples (system, number of failures), one for each way that a deed's turn can go."""
    if refusal(system, deed) is not None:
        return [(system, 0)]
    return [(later, len(fails)) for fails, later, calls in all_runs(system, deed)]


def step(reached, deed):
    """Return what is reached, as `reached_by` tells, behind one more deed."""
    later = {}
    for system, count, fewest in reached.values():
        for end, failures in outcomes(system, deed):
            key = order_key(end)
            other_count, other_fewest = later[key][1:] if key in later else (0, fewest + failures)
            later[key] = (end, count + other_count, min(fewest + failures, other_fewest))
    return later


def reached_by(system, deeds):
    """Return a dict from the order key of each end to a tuple: it, its number of courses, its fewest failures."""
    reached = {order_key(system): (system, 1, 0)}
    for deed in deeds:
        reached = step(reached, deed)
    return reached


def ends(system, deeds):
    """Return the ascending list of all systems that there can be behind the deeds."""
    reached = reached_by(system, deeds)
    return [reached[key][0] for key in sorted(reached)]


def course_count(system, deeds):
    """Return how many courses there are."""
    return sum([count for end, count, fewest in reached_by(system, deeds).values()])


def fewest_failures(system, deeds, goal):
    """Return the fewest failures of a course that ends with the goal, or None."""
    check_alike(system.store, goal.store)
    reached = reached_by(system, deeds)
    key = order_key(goal)
    return reached[key][2] if key in reached else None

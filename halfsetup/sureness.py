"""Sureness: how many deeds come to a system for certain, though some calls fail.

A plan is a list of dicts, one for each number of failures that can still come, from 0: from the keys of all systems
out of which the goal can be made sure then, to the number of deeds that are needed in the worst case.
"""

from halfsetup.charts import Chart
from halfsetup.checks import is_number
from halfsetup.errors import InvalidNumber
from halfsetup.reaching import reachable_keys
from halfsetup.stores import check_alike
from halfsetup.systems import order_key

MOST_FAILURES = 3


def needed_behind(plan, ends, failures):
    """Return the most deeds that are needed from a deed on, itself among them, None if it leads to nothing sure.

    Ends that take more failures than these do not come about; of no ends it is 0.
    """
    needed = 0
    for key, taken in ends:
        if taken > failures:
            continue
        if key not in plan[failures - taken]:
            return None
        needed = max(needed, 1 + plan[failures - taken][key])
    return needed


def deeds_to(plan, moves, failures):
    """Return a dict from the keys in which a deed without failures ends to all tuples (key before it, needed deeds).

    The needed deeds are those that failures of this deed lead to.
    """
    found = {}
    for key, ends in moves:
        needed = needed_behind(plan, ends[1:], failures)
        if needed is not None:
            found.setdefault(ends[0][0], []).append((key, needed))
    return found


def next_numbers(plan, moves, goal_key):
    """Return the dict of a plan for one more failure than it has."""
    before = deeds_to(plan, moves, len(plan))
    numbers = {}
    waiting = {0: {goal_key: True}}
    number = 0
    # Each number is found from lesser ones, so it is the least when its turn comes.
    while waiting:
        due = waiting.pop(number, {})
        present = [key for key in due if key not in numbers]
        numbers.update({key: number for key in present})
        for key in present:
            for earlier, needed in before.get(key, []):
                later = waiting.setdefault(max(number + 1, needed), {})
                later[earlier] = True
        number += 1
    return numbers


def made_plan(chart, keys, goal_key, failures):
    """Return the plan for a goal, and at most so many failures."""
    moves = [(key, chart.ends_behind(key, deed)) for key in keys for deed in chart.deeds_at(key)]
    plan = []
    while len(plan) <= failures:
        plan.append(next_numbers(plan, moves, goal_key))
    return plan


def checked_plan(chart, system, goal, failures):
    """Return the plan for a goal, behind the checks that are made even if no deed is needed."""
    check_alike(system.store, goal.store)
    if not is_number(failures, 0, MOST_FAILURES):
        raise InvalidNumber(f"the number of failures is not one from 0 to {MOST_FAILURES}")
    keys = reachable_keys(chart, order_key(system))
    return made_plan(chart, keys, order_key(goal), failures)


def surely(system, goal, failures):
    """Return how many deeds are needed in the worst case to come to the goal, None if it cannot be made sure."""
    plan = checked_plan(Chart(system.store), system, goal, failures)
    return plan[failures].get(order_key(system))


def best_deed(system, goal, failures):
    """Return the first deed with which the number of `surely` is enough, None if none is needed, or none is sure."""
    chart = Chart(system.store)
    plan = checked_plan(chart, system, goal, failures)
    key = order_key(system)
    number = plan[failures].get(key, 0)
    if number == 0:
        return None
    fitting = [deed for deed in chart.deeds_at(key)
               if needed_behind(plan, chart.ends_behind(key, deed), failures) == number]
    return fitting[0]

"""Faults: scripts that fail whenever they are called, and how to find them."""

from halfsetup.charts import all_deeds
from halfsetup.checks import is_number
from halfsetup.deeds import refusal
from halfsetup.errors import InvalidNumber, UnknownScript, UnknownScripts
from halfsetup.running import play
from halfsetup.stores import check_alike
from halfsetup.systems import order_key

MOST_SCRIPTS = 3
MOST_DEEDS = 3


def is_known(store, script):
    """Tell whether an edition of a store has a script, a tuple (name, version, script)."""
    name, version, word = script
    return (name, version) in store and word in store[(name, version)].scripts


def turn(system, deed, faulty):
    """Return the system behind a deed, left out if it cannot begin, and the list of the scripts that were called."""
    if refusal(system, deed) is not None:
        return (system, [])
    state, calls = play(system.store, system[deed[1]], deed, (), faulty)
    return (system.with_state(deed[1], state), [call[:3] for call, failed in calls])


def turns_behind(system, deeds, faulty):
    """Return the system behind deeds, and the list of the scripts that were called."""
    called = []
    for deed in deeds:
        system, scripts = turn(system, deed, faulty)
        called.extend(scripts)
    return (system, called)


def behind(system, deeds, faulty):
    """Return the system behind deeds if some scripts are faulty."""
    for at, script in enumerate(faulty):
        if not is_known(system.store, script):
            raise UnknownScript(at)
    later, called = turns_behind(system, deeds, faulty)
    return later


def is_part(scripts, others):
    """Tell whether all scripts are among others."""
    return all([script in others for script in scripts])


def explained(system, deeds, later, most):
    """Return the list of the least sets of faulty scripts by which a system comes out, the shorter ones first."""
    check_alike(system.store, later.store)
    if not is_number(most, 0, MOST_SCRIPTS):
        raise InvalidNumber(f"the number of scripts is not one from 0 to {MOST_SCRIPTS}")
    found = []
    level = [()]
    # A script that is not called changes nothing, so a least set is one with which all its scripts are called. In
    # the order of their first calls each one is called, too, with only those before it: so it is added to these.
    while level and len(level[0]) <= most:
        larger = {}
        for faulty in level:
            end, called = turns_behind(system, deeds, faulty)
            if end == later:
                found.append(faulty)
            else:
                larger.update({tuple(sorted([*faulty, script])): True for script in called if script not in faulty})
        level = [some for some in sorted(larger) if not any([is_part(least, some) for least in found])]
    return found


def check_sets(store, sets):
    """Raise UnknownScripts if a set has a script that no edition of the store has."""
    for at, scripts in enumerate(sets):
        if not all([is_known(store, script) for script in scripts]):
            raise UnknownScripts(at)


def are_different(systems):
    """Tell whether no two of some systems of one store are equal."""
    return len({order_key(system) for system in systems}) == len(systems)


def tells_apart(system, deeds, sets):
    """Tell whether the systems behind deeds are all different for sets of faulty scripts."""
    check_sets(system.store, sets)
    return are_different([turns_behind(system, deeds, faulty)[0] for faulty in sets])


def systems_behind(systems, deed, sets):
    """Return the list of the systems behind a deed, one for each set of faulty scripts."""
    return [turn(system, deed, faulty)[0] for system, faulty in zip(systems, sets)]


def trials_behind(trials, sets):
    """Return the trials that are one deed longer, without those that come to the same systems as lesser ones."""
    longer = {}
    # The trials stand in the order of their deeds, and the deeds ascend: so the first one of several is the least.
    for deeds, systems in trials:
        for deed in all_deeds(systems[0].store):
            if refusal(systems[0], deed) is None:
                later = systems_behind(systems, deed, sets)
                key = tuple([order_key(system) for system in later])
                longer.setdefault(key, ([*deeds, deed], later))
    return list(longer.values())


def telling_deeds(system, sets, most):
    """Return the least shortest list of deeds that tells sets of faulty scripts apart, or None."""
    check_sets(system.store, sets)
    if not is_number(most, 0, MOST_DEEDS):
        raise InvalidNumber(f"the number of deeds is not one from 0 to {MOST_DEEDS}")
    # A trial is a tuple (deeds, systems behind them): first the system if nothing is faulty, then those of the sets.
    all_sets = [(), *sets]
    trials = [([], [system for faulty in all_sets])]
    for length in range(most + 1):
        if length > 0:
            trials = trials_behind(trials, all_sets)
        for deeds, systems in trials:
            if are_different(systems[1:]):
                return deeds
    return None

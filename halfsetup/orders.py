"""Orders: in which order pending packages are set up."""

from halfsetup.systems import edition_of, is_met

PENDING = ("failed", "unpacked")


def pending(system):
    """Return the ascending list of all packages that are to be set up."""
    return [name for name in system.store.names if system[name][0] in PENDING]


def would_meet(system, names, need):
    """Tell whether one of some packages that are not ready would meet a need if it were."""
    name, least = need
    return name in names and system[name][1] >= least


def lacks(system, name, names):
    """Tell whether a package has a need that is met neither by what is ready nor by other named packages."""
    needs = edition_of(system, name).needs
    return any([not is_met(system, need) and not would_meet(system, names, need) for need in needs])


def hopeful(system):
    """Return the ascending list of all pending packages that are not hopeless."""
    names = pending(system)
    lacking = [name for name in names if lacks(system, name, names)]
    while lacking:
        names = [name for name in names if name not in lacking]
        lacking = [name for name in names if lacks(system, name, names)]
    return names


def hopeless(system):
    """Return the ascending list of all pending packages that can never be set up."""
    others = hopeful(system)
    return [name for name in pending(system) if name not in others]


def needed_by(system, names, name):
    """Return the list of those named packages that one needs, straight or through others, by needs they would meet."""
    found = []
    waiting = [name]
    while waiting:
        needs = edition_of(system, waiting.pop()).needs
        fresh = [need[0] for need in needs if would_meet(system, names, need) and need[0] not in found]
        found.extend(fresh)
        waiting.extend(fresh)
    return found


def rings(system):
    """Return the ascending list of the largest tuples of pending packages each of which needs each other one."""
    names = pending(system)
    needed = {name: needed_by(system, names, name) for name in names}
    found = []
    for name in names:
        others = [other for other in needed[name] if other != name and name in needed[other]]
        # A ring is found from each of its packages: only the first one adds it.
        if others and name < min(others):
            found.append((name, *sorted(others)))
    return found


def setup_order(system):
    """Return the list of tuples (name, forced) of the packages to be set up, as they are chosen."""
    left = hopeful(system)
    order = []
    while left:
        done = [name for name, forced in order]
        free = [name for name in left if not lacks(system, name, done)]
        mute = [name for name in left if "setup" not in edition_of(system, name).scripts]
        chosen = (free or mute or left)[0]
        order.append((chosen, len(free) == 0))
        left = [name for name in left if name != chosen]
    return order


def all_orders(names):
    """Return the list of the tuples of names in all orders."""
    if not names:
        return [()]
    found = []
    for name in names:
        others = [other for other in names if other != name]
        found.extend([(name, *order) for order in all_orders(others)])
    return found


def forced_count(system, order):
    """Return how many packages are forced in an order."""
    return len([name for at, name in enumerate(order) if lacks(system, name, order[:at])])


def fewest_forced(system):
    """Return a tuple of the fewest packages that are forced, and the first order with so few."""
    return min([(forced_count(system, order), order) for order in all_orders(hopeful(system))])

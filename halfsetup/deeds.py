"""Deeds: whether they can begin."""

from halfsetup.systems import edition_of, is_there, names_against, unmet_names


def unpack_refusal(system, name, version):
    """Return why an edition cannot be unpacked, or None."""
    if (name, version) not in system.store:
        return ("unknown",)
    status, present, done = system[name]
    if status in ("failed", "ready", "unpacked") and present == version:
        return ("same",)
    edition = system.store[(name, version)]
    unmet = unmet_names(system, edition.first)
    if unmet:
        return ("first", unmet[0])
    opposed = names_against(system, edition)
    if opposed:
        return ("against", opposed[0])
    return None


def setup_refusal(system, name):
    """Return why a package of the store cannot be set up, or None."""
    if system[name][0] not in ("unpacked", "failed"):
        return ("status",)
    unmet = unmet_names(system, edition_of(system, name).needs)
    return ("needs", unmet[0]) if unmet else None


def needs_name(system, other, name):
    """Tell whether a package is ready, and its edition needs a name."""
    if system[other][0] != "ready":
        return False
    return name in [need[0] for need in edition_of(system, other).needs]


def remove_refusal(system, name):
    """Return why a package of the store cannot be removed, or None."""
    if not is_there(system, name):
        return ("status",)
    needing = [other for other in system.store.names if needs_name(system, other, name)]
    return ("needed", needing[0]) if needing else None


def purge_refusal(system, name):
    """Return why a package of the store cannot be purged, or None."""
    return None if system[name][0] == "left" else ("status",)


REFUSALS = {"setup": setup_refusal, "remove": remove_refusal, "purge": purge_refusal}


def refusal(system, deed):
    """Return why a deed cannot begin, or None if it can."""
    if deed[0] == "unpack":
        return unpack_refusal(system, deed[1], deed[2])
    if deed[1] not in system.store.names:
        return ("unknown",)
    answer = REFUSALS[deed[0]]
    return answer(system, deed[1])

"""Settings: what becomes of a settings file when versions are set up."""

from halfsetup.checks import is_number
from halfsetup.errors import InvalidAnswer, InvalidNumber

ANSWERS = ("keep", "take")
MOST_CONTENT = 99
MOST_VERSIONS = 12


def check_content(content, least):
    """Raise InvalidNumber if a content is out of its range."""
    if not is_number(content, least, MOST_CONTENT):
        raise InvalidNumber(f"a content is not a number from {least} to {MOST_CONTENT}")


def check_answer(answer):
    """Raise InvalidAnswer if an answer is neither of the two."""
    if answer not in ANSWERS:
        raise InvalidAnswer("the answer is neither to keep nor to take")


def check_course(contents, edits):
    """Raise InvalidNumber if versions with these contents cannot be set up with these edits."""
    if len(contents) > MOST_VERSIONS:
        raise InvalidNumber(f"there are more than {MOST_VERSIONS} contents")
    for content in contents:
        check_content(content, 1)
    for index, content in edits.items():
        if not is_number(index, 0, len(contents) - 1):
            raise InvalidNumber("no version has the index of an edit")
        check_content(content, 0)


def settle(noted, present, new, answer):
    """Return a tuple of the content behind a setup, and whether it was asked."""
    if new in (noted, present):
        return (present, False)
    if present == noted:
        return (new, False)
    return (present if answer == "keep" else new, True)


def settled(noted, present, new, answer):
    """Return a tuple of the content behind a setup, and whether it was asked."""
    check_content(noted, 0)
    check_content(present, 0)
    check_content(new, 1)
    check_answer(answer)
    return settle(noted, present, new, answer)


def settled_all(contents, edits, answer):
    """Return a tuple of the content behind the setups of all versions, and the list of the indexes asked at."""
    check_course(contents, edits)
    check_answer(answer)
    noted = present = 0
    asked_at = []
    for at, new in enumerate(contents):
        present, asked = settle(noted, edits.get(at, present), new, answer)
        noted = new
        if asked:
            asked_at.append(at)
    return (present, asked_at)


def best_behind(best, at, contents, edits):
    """Return what `fewest_asked` knows behind one more version, given what it knew before."""
    later = {}
    for (noted, present), (number, length, indexes) in best.items():
        content = edits.get(at, present)
        ways = []
        if at < len(contents) - 1:
            ways.append((noted, content, (number, length, indexes)))
        for answer in ANSWERS:
            kept, asked = settle(noted, content, contents[at], answer)
            ways.append((contents[at], kept, (number + int(asked), length + 1, (*indexes, at))))
        for now_noted, now_present, cost in ways:
            key = (now_noted, now_present)
            later[key] = min(cost, later.get(key, cost))
    return later


def fewest_asked(contents, edits):
    """Return a tuple of the fewest questions if versions are left out, and the first shortest tuple of the others."""
    check_course(contents, edits)
    # From what is noted and present to the least tuple (questions, number of versions set up, their indexes). What
    # comes behind adds alike to all tuples of one key, so the least one of them stays the least.
    best = {(0, 0): (0, 0, ())}
    for at in range(len(contents)):
        best = best_behind(best, at, contents, edits)
    number, length, indexes = min(list(best.values()))
    return (number, indexes)

"""Watches: the calls of a deed as they are seen, and what can still come of it."""

from halfsetup.errors import NoCall
from halfsetup.running import all_plays, check_beginning


class Watch:
    """A deed that is watched, call by call."""

    def __init__(self, system, deed):
        check_beginning(system, deed)
        self.seen = 0
        # All plays, tuples (fails, state, calls), that begin with the calls that were seen: never none.
        self.plays = all_plays(system.store, system[deed[1]], deed, ())

    @property
    def calls(self):
        """A new list of all tuples (call, failed) that were seen."""
        return self.plays[0][2][:self.seen]

    @property
    def finished(self):
        """Whether no call is left."""
        return self.next_call() is None

    def next_call(self):
        """Return the call that is made next, or None."""
        # Which call is made depends only on those before it, so it is the same in all plays.
        made = self.plays[0][2]
        return made[self.seen][0] if self.seen < len(made) else None

    def see(self, failed):
        """Tell that the next call was made, and whether it failed, and return it."""
        call = self.next_call()
        if call is None:
            raise NoCall("the deed makes no other call")
        self.plays = [one for one in self.plays if one[2][self.seen][1] == failed]
        self.seen += 1
        return call

    def could_end(self):
        """Return the ascending list of all states that the package can have at the end."""
        return sorted({state for fails, state, calls in self.plays})

    def most_left(self):
        """Return the greatest number of calls that can still be made."""
        return max([len(calls) for fails, state, calls in self.plays]) - self.seen

    def fewest_left(self, state):
        """Return the fewest calls that have still to fail so that the package has a state at the end, or None."""
        numbers = [len([number for number in fails if number >= self.seen])
                   for fails, end, calls in self.plays if end == state]
        return min(numbers, default=None)

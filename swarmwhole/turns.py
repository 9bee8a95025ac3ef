"""Who may ask: the turn slot, which goes round, and the rewards (point 605)."""

from swarmwhole.limits import REWARDS, TURN


class Turns:
    """The slots that a peer deals to its neighbours."""

    def __init__(self):
        self._holder = None
        # To whom the turn slot was dealt last, also when nobody holds it any more.
        self._last = None
        # For how many ticks more the holder keeps it.
        self._left = 0
        self._rewarded = []

    def step(self, wishing, given):
        """Goes on by a tick; the neighbour to which the turn slot is dealt now, or None."""
        self._left -= 1
        # None, for nobody, wishes nothing.
        if self._left > 0 and self._holder in wishing:
            return None
        self._holder = self._next_of(wishing)
        if self._holder is not None:
            self._last = self._holder
            self._left = TURN
        self._rewarded = _best([number for number in wishing if number != self._holder], given)
        return self._holder

    def _next_of(self, wishing):
        """The first one that wishes behind the one to which the turn slot was dealt last, in the ring."""
        behind = [number for number in wishing if self._last is not None and number > self._last]
        ring = behind + list(wishing)
        return ring[0] if len(ring) > 0 else None

    def leave(self, number):
        """Takes a neighbour out of the slots."""
        if self._holder == number:
            self._holder = None
        self._rewarded = [other for other in self._rewarded if other != number]

    def served(self):
        """A new list of those with a slot, ascending."""
        holders = [] if self._holder is None else [self._holder]
        return sorted(holders + self._rewarded)


def _best(numbers, given):
    """Those of the neighbours that get a reward."""
    rows = sorted([(-given[number], number) for number in numbers if given.get(number, 0) > 0])
    return [number for _, number in rows[:REWARDS]]

"""How many pieces neighbours gave in the last ticks (point 605)."""

from swarmwhole.limits import ROUND


class Gifts:
    """Counts for each of the last ROUND ticks, this one among them, how many pieces each neighbour gave."""

    def __init__(self):
        self._ticks = [{}]

    def note(self, number):
        """The neighbour has given a piece in this tick."""
        now = self._ticks[-1]
        now[number] = now.get(number, 0) + 1

    def totals(self):
        """A new dictionary with how many pieces each neighbour gave altogether."""
        found = {}
        for given in self._ticks:
            for number, many in given.items():
                found[number] = found.get(number, 0) + many
        return found

    def step(self):
        """Goes on to the next tick."""
        self._ticks = self._ticks[1 - ROUND:] + [{}]

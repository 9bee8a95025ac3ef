"""Players: they play the stream of a plan from what a store has, and keep their place on a disk (points 1103, 1104)."""

from swarmwhole.octets import joined
from swarmwhole.twice import PLACES, number_at, write_number

PLAYER_SIZE = 32


class Player:
    """Shows the octets of the stream in order, from the place on that the disk tells."""

    def __init__(self, plan, disk):
        self._plan = plan
        self._disk = disk
        first, second = [_place_at(disk, place, plan.total()) for place in range(PLACES)]
        self._place = max(first, second)
        # The place on the disk that is written next: never the one that has the greatest number.
        self._next = 1 if first > 0 and first >= second else 0
        plan.move(self._place)

    def place(self):
        """The place where the next octet is played."""
        return self._place

    def play(self, store, rate):
        """Plays at most so many octets, from what the store has."""
        if self._place == self._plan.total():
            return ("end",)
        octets = self._next_octets(store, rate)
        if len(octets) == 0:
            return ("stall", self._plan.at(self._place)[0])
        place = self._place
        self._go(place + len(octets))
        return ("show", place, octets)

    def _next_octets(self, store, rate):
        """The octets from the place on that the store has without a gap, at most so many."""
        had = set(store.had())
        parts = []
        place = self._place
        behind = min(place + rate, self._plan.total())
        while place < behind:
            index, start, count = self._plan.run(place)
            if index not in had:
                break
            count = min(count, behind - place)
            parts.append(store.piece(index)[start:start + count])
            place += count
        return joined(parts)

    def _go(self, place):
        """Goes to a place, which is durable ahead of everything else."""
        write_number(self._disk, self._next, place)
        self._next = 1 - self._next
        self._place = place
        self._plan.move(place)


def _place_at(disk, place, total):
    """The number in a place on the disk that is a place of the stream, otherwise 0."""
    number = number_at(disk, place)
    return number if number <= total else 0

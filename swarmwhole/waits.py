"""Who waits for a turn, and since when (point 808)."""


class Waits:
    """Goes along the rows of honest peers, and keeps since when each neighbour waits at each of them."""

    def __init__(self):
        # The ticks by the peer and the neighbour, in the order in which the waits began.
        self._since = {}

    def late(self, tick, bound):
        """The list of the ticks, peers and neighbours of the waits that last longer than a bound."""
        found = []
        for (peer, neighbour), since in self._since.items():
            # The waits behind this one began later, or in the same tick.
            if tick - since <= bound:
                break
            found.append((since, peer, neighbour))
        return found

    def look(self, row):
        """Goes on by a row."""
        tick, peer, kind, *items = row
        if kind == "fall":
            self._since = {pair: since for pair, since in self._since.items() if pair[0] != peer}
        elif kind in ("turn", "down") or (kind == "got" and items[1] == ("nowish",)):
            self._end((peer, items[0]))
        elif kind == "got" and items[1] == ("wish",):
            self._since.setdefault((peer, items[0]), tick)

    def _end(self, pair):
        if pair in self._since:
            del self._since[pair]

"""Who sends what does not fit, and who is told (point 806)."""

from swarmwhole.digests import Hasher
from swarmwhole.store import fits


class Watch:
    """Goes along the rows of a log, and finds who is told without a reason, or spared."""

    def __init__(self, description, honest):
        self._description = description
        self._honest = honest
        self._hasher = Hasher(description[1])
        # Of this tick: who sent what does not fit, and those of the rows about it that wait for a told row.
        self._tick = 0
        self._sent = {}
        self._untold = []
        # Whom each peer has told since it started.
        self._told = {}

    def look(self, row):
        """Goes on by a row; the fault that is found at it, or None."""
        fault = self.spared() if row[0] > self._tick else None
        if fault is not None:
            return fault
        if row[0] > self._tick:
            self._tick = row[0]
            self._sent = {}
        return self._look_honest(row) if row[1] in self._honest else None

    def spared(self):
        """The fault of this tick if it has ended."""
        return ("spared",) + self._untold[0] if len(self._untold) > 0 else None

    def _look_honest(self, row):
        tick, peer, kind, *items = row
        if kind == "start":
            self._told[peer] = {}
        elif kind == "got" and not self._is_fit(items[1]):
            self._sent[(peer, items[0])] = True
            self._untold.append((tick, peer, items[0]))
        elif kind == "told":
            return self._look_told(tick, peer, items[0])
        elif kind == "up" and items[0] in self._told.get(peer, {}):
            return ("again", tick, peer, items[0])
        return None

    def _is_fit(self, message):
        if message is None:
            return False
        if message[0] != "piece":
            return True
        _, index, octets, proof = message
        return fits(self._hasher, self._description, index, octets, proof)

    def _look_told(self, tick, peer, neighbour):
        if (peer, neighbour) not in self._sent:
            return ("told", tick, peer, neighbour)
        if neighbour in self._honest:
            return ("honest", tick, peer, neighbour)
        there = self._told.setdefault(peer, {})
        there[neighbour] = True
        self._untold = [row for row in self._untold if row[1:] != (peer, neighbour)]
        return None

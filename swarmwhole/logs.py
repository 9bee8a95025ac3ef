"""Logs: rows that tell what the peers of a swarm did (points 801 and 802)."""

from swarmwhole.errors import BadRow
from swarmwhole.octets import is_integer

# How many items a row of each kind has, the tick, the peer and the kind among them.
ROW_SIZES = {"start": 5, "fall": 3, "up": 4, "down": 4, "got": 5, "had": 6, "told": 4, "turn": 4}


class Log:
    """Rows in the order in which things happened."""

    def __init__(self):
        self._rows = []
        self._tick = 0

    def add(self, row):
        """Appends a row, for any value."""
        if not _is_row(row) or row[0] < self._tick:
            raise BadRow()
        self._rows.append(row)
        self._tick = row[0]

    def rows(self):
        """A new list of the rows."""
        return list(self._rows)


def _is_row(value):
    if not isinstance(value, tuple) or len(value) < 3:
        return False
    tick, peer, kind = value[:3]
    if not is_integer(tick) or not is_integer(peer) or min(tick, peer) < 0:
        return False
    return isinstance(kind, str) and kind in ROW_SIZES and len(value) == ROW_SIZES[kind]

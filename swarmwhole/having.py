"""What peers have, as the rows of a log say (point 803)."""


class Having:
    """Goes along the rows, and keeps what the peers have."""

    def __init__(self):
        self._had = {}

    def of(self, peer):
        """The list of the indexes of the pieces that a peer has."""
        return list(self._had.get(peer, {}))

    def look(self, row):
        """Goes on by a row."""
        _, peer, kind, *items = row
        if kind == "start":
            self._had[peer] = {index: True for index in items[1]}
        elif kind == "had":
            there = self._had.setdefault(peer, {})
            there[items[0]] = True

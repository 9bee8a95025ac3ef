"""The connections of a swarm that are up, and the octets that are on their way (points 701 and 703)."""


class Lines:
    """Carries octets in both directions of each connection, in order."""

    def __init__(self):
        # The octets on their way, by the sender and the receiver; both directions are there while it is up.
        self._ways = {}

    def is_up(self, one, other):
        """True if the two are connected."""
        return (one, other) in self._ways

    def begin(self, one, other):
        """The connection begins."""
        self._ways[(one, other)] = []
        self._ways[(other, one)] = []

    def finish(self, one, other):
        """The connection ends, and what is on its way is gone."""
        del self._ways[(one, other)]
        del self._ways[(other, one)]

    def send(self, sender, receiver, octets):
        """Puts octets on their way."""
        self._ways[(sender, receiver)].extend(octets)

    def arrive(self, sender, receiver, count):
        """The next octets, so many of them or all if it is None, which are not on their way any more."""
        way = self._ways[(sender, receiver)]
        behind = len(way) if count is None else count
        self._ways[(sender, receiver)] = way[behind:]
        return tuple(way[:behind])

    def pairs(self):
        """The list of the connections that are up, the lesser number first, ascending."""
        return sorted([pair for pair in self._ways if pair[0] < pair[1]])

"""A disk that loses what is not synced when it falls (points 500 to 502)."""

from swarmwhole.errors import DiskFell


class Disk:
    """So many octets, all 0 at first."""

    def __init__(self, size):
        # What is read, what a fall leaves, and the writes by which the first one is ahead of the second one.
        self._seen = [0] * size
        self._durable = [0] * size
        self._pending = []
        # How many operations an armed disk still lets pass; None if it is not armed.
        self._left = None
        self._fallen = False

    def write(self, offset, octets):
        """Replaces octets, pending until a sync."""
        self._operate()
        self._seen[offset:offset + len(octets)] = octets
        self._pending.append((offset, octets))

    def read(self, offset, count):
        """The tuple of the octets from the offset on."""
        self._ask_fallen()
        return tuple(self._seen[offset:offset + count])

    def sync(self):
        """Makes all pending writes durable."""
        self._operate()
        for offset, octets in self._pending:
            self._keep(offset, octets)
        self._pending = []

    def arm(self, count):
        """Lets so many operations pass; the one after them makes the disk fall."""
        self._left = count

    def pending(self):
        """The number of pending writes."""
        return len(self._pending)

    def fall(self, kept):
        """A power failure: each pending write keeps so many of its first octets."""
        # The writes behind the last number are not there any more: they keep nothing.
        for (offset, octets), count in zip(self._pending, kept):
            self._keep(offset, octets[:count])
        self._seen = list(self._durable)
        self._pending = []
        self._left = None
        self._fallen = False

    def _keep(self, offset, octets):
        self._durable[offset:offset + len(octets)] = octets

    def _operate(self):
        """Raises DiskFell if an operation may not pass."""
        self._ask_fallen()
        if self._left == 0:
            self._fallen = True
            raise DiskFell()
        if self._left is not None:
            self._left -= 1

    def _ask_fallen(self):
        if self._fallen:
            raise DiskFell()

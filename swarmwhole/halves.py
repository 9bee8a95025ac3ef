"""The halves of a keeper's disk, each of which is the disk of a store (point 1010)."""


class Half:
    """A part of a disk from an offset on; what is pending and what falls is that of the whole disk."""

    def __init__(self, disk, offset):
        self._disk = disk
        self._offset = offset

    def write(self, offset, octets):
        """Replaces octets, pending until a sync."""
        self._disk.write(self._offset + offset, octets)

    def read(self, offset, count):
        """The tuple of the octets from the offset on."""
        return self._disk.read(self._offset + offset, count)

    def sync(self):
        """Makes all pending writes of the disk durable."""
        self._disk.sync()

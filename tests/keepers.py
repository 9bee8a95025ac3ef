"""Keepers on disks that tell what is done to them."""

from swarmwhole.content import cut
from swarmwhole.digests import Hasher
from swarmwhole.disk import Disk
from swarmwhole.errors import DiskFell
from swarmwhole.keeper import Keeper, keeper_size
from swarmwhole.leaves import proofs_of
from swarmwhole.store import disk_size


class Spy(Disk):
    """A disk that keeps the operations that passed."""

    def __init__(self, size):
        super().__init__(size)
        self.size = size
        self.passed = []

    def write(self, offset, octets):
        super().write(offset, octets)
        self.passed.append((offset, octets))

    def sync(self):
        super().sync()
        self.passed.append("sync")

    def octets(self):
        return self.read(0, self.size)

    def taken(self):
        """The operations since the last call."""
        passed, self.passed = self.passed, []
        return passed


class Brink(Spy):
    """A disk that falls at the sync of a mark, if it stands at the edge."""

    edge = False

    def sync(self):
        if self.edge and self.passed and self.passed[-1] != "sync" and self.passed[-1][0] < 64:
            self.arm(0)
        super().sync()


class Box:
    """A history with its pieces and proofs, and keepers of it."""

    def __init__(self, history, *versions):
        self.history = history
        self.pieces = [cut(entry[2], tuple(octets for _, octets in version))
                       for entry, version in zip(history, versions)]
        self.proofs = [proofs_of(Hasher(entry[2][1]), entry[4]) for entry in history]
        self.size = max(disk_size(entry[2]) for entry in history)

    def disk(self, made=Spy):
        return made(keeper_size(self.size))

    def keeper(self, disk, *indexes, version=None):
        """A keeper that has these pieces of its version besides what it has already."""
        keeper = Keeper(disk, self.size, self.history)
        if version is not None:
            keeper.move(version)
        self.put(keeper, *indexes)
        return keeper

    def put(self, keeper, *indexes):
        number = keeper.version()
        for index in indexes:
            keeper.store().put(index, self.pieces[number][index], self.proofs[number][index])
        keeper.store().sync()

    def mark(self, serial, version):
        words = serial.to_bytes(8, "big") + version.to_bytes(8, "big")
        return tuple(words + words)

    def half(self, serial):
        """The offset of the half of a serial."""
        return 64 + serial % 2 * self.size

    def life(self, serial, life):
        """The operation that writes a life in the half of a serial."""
        return (self.half(serial) + life % 2 * 16, tuple(life.to_bytes(8, "big")) * 2)

    def slot(self, serial, version, index):
        """The operations that put a piece into the half of a serial."""
        description, proof = self.history[version][2], self.proofs[version][index]
        width = description[2] + len(proof) * description[1][1]
        offset = self.half(serial) + 32 + index * width
        piece = self.pieces[version][index]
        digests = tuple(octet for digest in proof for octet in digest)
        return [(offset, piece)] + ([(offset + len(piece), digests)] if digests else [])


def falls(deed, prepared, most):
    """Lets a deed fall at each of its operations, with all that may be kept of what is pending then.

    `prepared` makes a disk and what the deed is done with; yields the disk behind each fall, and whether the deed
    fell at all.
    """
    count = 0
    while True:
        pending = attempt(deed, prepared(), count)[1]
        if pending is None:
            return
        for kept in keepings(pending, most):
            disk, _ = attempt(deed, prepared(), count)
            disk.fall(kept)
            yield disk
        count += 1


def attempt(deed, given, count):
    """The disk, and how many writes are pending at the fall, or None if the deed did not fall."""
    disk, held = given
    disk.arm(count)
    try:
        deed(disk, held)
    except DiskFell:
        return disk, disk.pending()
    return disk, None


def keepings(pending, most):
    """Up to each octet of each pending write, with the writes ahead of it kept, and without them."""
    yield ()
    for place in range(pending):
        for many in range(1, most + 1):
            yield (most,) * place + (many,)
            yield (0,) * place + (many,)

"""Content and descriptions that several tests use."""

from swarmwhole.content import cut, describe
from swarmwhole.digests import Hasher
from swarmwhole.disk import Disk
from swarmwhole.store import Store, disk_size
from swarmwhole.trees import proofs
from tests.helpers import octets

SHA = ("sha", 24)
SUMS = tuple(("sum", size) for size in range(1, 9))
NAME = octets("some-content.v1_0")


def path(text):
    """The path that a string with slashes writes."""
    return tuple(octets(part) for part in text.split("/"))


def filling(count, step=5):
    """So many octets, most of them different from their neighbours."""
    return tuple((step * place + place // 256 + 3) % 256 for place in range(count))


def files_of(*counts):
    """Files of so many octets each, in a folder."""
    return tuple((path(f"all/file{place}"), filling(count, 2 * place + 5)) for place, count in enumerate(counts))


def content(*counts, kind=("sum", 4), size=4):
    """The description of such files, and the tuple of their octets."""
    files = files_of(*counts)
    return describe(NAME, kind, size, files), tuple(held for _, held in files)


def raw(name=NAME, kind=("sum", 2), size=8, files=((path("a"), 5),), root=(1, 2)):
    """A description as it stands, right by default: the root is not asked for."""
    return (name, kind, size, files, root)


# Values that are no descriptions, each with the reason of point 302.
WRONG_DESCRIPTIONS = (
    (None, "form"), (5, "form"), ("abcde", "form"), ((), "form"), (list(raw()), "form"), (raw()[:4], "form"),
    (raw() + (1,), "form"), (True, "form"), (raw(name=()), "name"), (raw(kind=("sum", 9)), "kind"),
    (raw(size=5), "size"), (raw(files=()), "files"), (raw(files=((path("a"), 0),)), "total"), (raw(root=(1,)), "root"),
)


class Sample:
    """A description with its pieces and their proofs, and disks and stores for it."""

    def __init__(self, *counts, kind=("sum", 2), size=4):
        self.description, files = content(*counts, kind=kind, size=size)
        self.pieces = cut(self.description, files)
        self.hasher = Hasher(kind)
        self.proofs = proofs(self.hasher, self.pieces)

    def disk(self):
        return Disk(disk_size(self.description))

    def store(self, *indexes, disk=None):
        """A store with these pieces on a disk."""
        store = Store(self.disk() if disk is None else disk, self.description)
        for index in indexes:
            self.put(store, index)
        store.sync()
        return store

    def put(self, store, index):
        return store.put(index, self.pieces[index], self.proofs[index])

    def slot(self, index):
        return self.pieces[index] + tuple(octet for item in self.proofs[index] for octet in item)

    def slots(self, *indexes):
        """All slots, with what belongs there in those with the indexes, and zeros in the others."""
        return sum((self.slot(index) if index in indexes else (0,) * len(self.slot(index))
                    for index in range(len(self.pieces))), ())

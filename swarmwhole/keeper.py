"""A keeper: holds one version of a content on a disk, and moves it to others (points 1010 to 1014)."""

from swarmwhole.digests import Hasher
from swarmwhole.errors import BadKeeper
from swarmwhole.halves import Half
from swarmwhole.histories import check_history
from swarmwhole.layout import length_of
from swarmwhole.leaves import leaf_of, proofs_of
from swarmwhole.octets import as_octets, is_integer, number_of
from swarmwhole.plans import made
from swarmwhole.store import Store, disk_size
from swarmwhole.twice import read_twice, write_twice

NUMBER_SIZE = 8
# A mark has its serial and its version twice.
WORDS_SIZE = 2 * NUMBER_SIZE
MARK_SIZE = 2 * WORDS_SIZE
# There are as many marks as halves, and the halves stand behind the marks.
HALVES = 2
HALVES_OFFSET = HALVES * MARK_SIZE
NO_MARK = (0, 0)


def keeper_size(size):
    """The number of octets of the disk of a keeper whose halves have so many."""
    return HALVES_OFFSET + HALVES * size


def _mark_at(disk, place):
    """The serial and the version of a mark, or NO_MARK if it is not readable."""
    octets = read_twice(disk, place * MARK_SIZE, WORDS_SIZE)
    if octets is None or number_of(octets[:NUMBER_SIZE]) == 0:
        return NO_MARK
    return (number_of(octets[:NUMBER_SIZE]), number_of(octets[NUMBER_SIZE:]))


def _last_mark(disk):
    """The readable mark with the greatest serial, or NO_MARK."""
    marks = [_mark_at(disk, place) for place in range(HALVES)]
    serial = max([mark[0] for mark in marks])
    # Of two marks with one serial, the one that stands in the place of this serial is meant.
    due = marks[serial % HALVES]
    return due if due[0] == serial else marks[1 - serial % HALVES]


class Keeper:
    """Holds the version that the last mark on a disk tells."""

    def __init__(self, disk, size, history):
        check_history(history)
        if any([disk_size(entry[2]) > size for entry in history]):
            raise BadKeeper("size")
        self._disk = disk
        self._size = size
        self._history = history
        self._serial, self._version = _last_mark(disk)
        if self._version >= len(history):
            raise BadKeeper("version")
        if self._serial == 0:
            self._mark(1, 0)
        self._store = self._opened(self._serial, self._version)

    def _mark(self, serial, version):
        """Writes a mark; from then on its version is held."""
        octets = as_octets(serial, size=NUMBER_SIZE) + as_octets(version, size=NUMBER_SIZE)
        write_twice(self._disk, serial % HALVES * MARK_SIZE, octets)
        self._serial = serial
        self._version = version

    def _opened(self, serial, version):
        """A store of a version in the half of a serial."""
        half = Half(self._disk, HALVES_OFFSET + serial % HALVES * self._size)
        return Store(half, self._history[version][2])

    def version(self):
        """The number of the version."""
        return self._version

    def serial(self):
        """The serial of the mark of the version."""
        return self._serial

    def store(self):
        """The store of the version."""
        return self._store

    def had(self):
        """A new dictionary of the pieces that the store has, by their index."""
        return {index: self._store.piece(index) for index in self._store.had()}

    def move(self, version):
        """Goes to another version, for any value; the tuple of the pieces that its store has."""
        if not is_integer(version) or not 0 <= version < len(self._history) or version == self._version:
            raise BadKeeper("version")
        new = self._history[version]
        pieces = made(self._history[self._version], self.had(), new)
        store = self._opened(self._serial + 1, version)
        _fill(store, new, pieces)
        self._mark(self._serial + 1, version)
        self._store = store
        return store.had()

    def spread(self):
        """Makes pieces that are lacking of equal ones; the tuple of the pieces that the store has since then."""
        entry = self._history[self._version]
        had = self.had()
        hasher = Hasher(entry[2][1])
        there = {}
        for index in sorted(had):
            there.setdefault((len(had[index]), leaf_of(hasher, had[index])), had[index])
        marks = [(length_of(entry[2], index), leaf) for index, leaf in enumerate(entry[4])]
        pieces = {index: there[mark] for index, mark in enumerate(marks) if index not in had and mark in there}
        return _fill(self._store, entry, pieces)


def _fill(store, entry, pieces):
    """Puts pieces of an entry into its store, and syncs; the tuple of the pieces that the store has since then."""
    ways = proofs_of(Hasher(entry[2][1]), entry[4])
    for index in sorted(pieces):
        store.put(index, pieces[index], ways[index])
    return store.sync()

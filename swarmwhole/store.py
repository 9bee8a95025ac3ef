"""A store of the pieces of one description, on a disk that may fall (points 503 to 508)."""

from swarmwhole.descriptions import piece_count
from swarmwhole.digests import Hasher
from swarmwhole.errors import BadPiece
from swarmwhole.layout import count_of, length_of, total_of
from swarmwhole.octets import cut, is_integer, is_octets, joined
from swarmwhole.trees import depth, fold, is_proof
from swarmwhole.twice import PLACES, PLACES_SIZE, number_at, write_number


def disk_size(description):
    """The number of octets of the two life places and all slots."""
    count = piece_count(description)
    return PLACES_SIZE + total_of(description) + count * _proof_size(description)


def _proof_size(description):
    """The number of octets of the digests of a proof."""
    return depth(count_of(description)) * description[1][1]


def _slot_offset(description, index):
    # Only the last piece may be shorter than the piece size, and no slot stands behind its one.
    return PLACES_SIZE + index * (description[2] + _proof_size(description))


def fits(hasher, description, index, octets, proof):
    """True if octets and a proof fit the piece with the index, for any of them."""
    count = count_of(description)
    if not is_integer(index) or not 0 <= index < count:
        return False
    if not is_octets(octets, size=length_of(description, index)) or not is_proof(hasher, count, proof):
        return False
    return fold(hasher, index, octets, proof) == description[4]


class Store:
    """Holds the pieces that were put into it, and has those that are durable."""

    def __init__(self, disk, description):
        self._count = piece_count(description)
        self._description = description
        self._disk = disk
        self._hasher = Hasher(description[1])
        self._life = 1 + max([number_at(disk, place) for place in range(PLACES)])
        write_number(disk, self._life % PLACES, self._life)
        # The octets and the proof of each piece that is held, and True for each piece that is had.
        self._held = self._read_slots()
        self._had = {index: True for index in self._held}

    def _read_slots(self):
        """What the slots hold that fits, by the index."""
        slots = {index: self._read_slot(index) for index in range(self._count)}
        return {index: slot for index, slot in slots.items() if self._fits(index, *slot)}

    def _read_slot(self, index):
        """The octets and the proof in a slot."""
        length = length_of(self._description, index)
        slot = self._disk.read(_slot_offset(self._description, index), length + _proof_size(self._description))
        return slot[:length], tuple(cut(slot[length:], self._hasher.size))

    def _fits(self, index, octets, proof):
        return fits(self._hasher, self._description, index, octets, proof)

    def life(self):
        """The life."""
        return self._life

    def put(self, index, octets, proof):
        """Takes a piece, for any index, octets and proof; False if it is held already."""
        if not self._fits(index, octets, proof):
            raise BadPiece()
        if index in self._held:
            return False
        offset = _slot_offset(self._description, index)
        self._disk.write(offset, octets)
        if len(proof) > 0:
            self._disk.write(offset + len(octets), joined(proof))
        self._held[index] = (octets, proof)
        return True

    def sync(self):
        """Makes what is held durable; the tuple of the pieces that the store has since then."""
        fresh = [index for index in self.held() if index not in self._had]
        if len(fresh) > 0:
            self._disk.sync()
        for index in fresh:
            self._had[index] = True
        return tuple(fresh)

    def had(self):
        """The tuple of the pieces that the store has."""
        return tuple(sorted(self._had))

    def held(self):
        """The tuple of the pieces that the store holds."""
        return tuple(sorted(self._held))

    def piece(self, index):
        """The octets of a piece that is held, otherwise None."""
        return self._held[index][0] if index in self._held else None

    def proof(self, index):
        """The proof of a piece that is held, otherwise None."""
        return self._held[index][1] if index in self._held else None

    def complete(self):
        """True if the store has all pieces."""
        return len(self._had) == self._count

"""Point 509: what always holds of the stores on one disk, across drawn falls."""

import random
import unittest

from swarmwhole.digests import Hasher
from swarmwhole.disk import Disk
from swarmwhole.errors import BadPiece, DiskFell
from swarmwhole.store import Store, disk_size, fits
from tests.samples import SHA, Sample


class Spy(Disk):
    """A disk that tells which writes passed."""

    def __init__(self, size):
        super().__init__(size)
        self.passed = []

    def write(self, offset, octets):
        super().write(offset, octets)
        self.passed.append((offset, len(octets)))


def forged(piece):
    """Other octets with the same plain sum of one octet, or None."""
    for place in range(len(piece) - 1):
        if piece[place] < 255 and piece[place + 1] >= 31:
            return piece[:place] + (piece[place] + 1, piece[place + 1] - 31) + piece[place + 2:]
    return None


class Always(unittest.TestCase):
    def setUp(self):
        self.chance = random.Random(509)
        self.falls = self.again = 0

    def play(self, sample, steps):
        """Stores one behind the other on one disk, and what had to be so at each step."""
        chance = self.chance
        disk = Spy(disk_size(sample.description))
        had, life, store = {}, 0, None
        for _ in range(steps):
            try:
                if store is None:
                    store = Store(disk, sample.description)
                    self.assertGreater(store.life(), life)
                    life = store.life()
                    self.agree(sample, store, had)
                self.step(sample, disk, store, had)
                self.agree(sample, store, had)
            except DiskFell:
                disk.fall(tuple(chance.randrange(20) for _ in range(chance.randrange(8))))
                store = None
                self.falls += 1

    def step(self, sample, disk, store, had):
        deed = self.chance.randrange(7)
        index = self.chance.randrange(len(sample.pieces))
        if deed == 0:
            disk.arm(self.chance.randrange(5))
        elif deed == 1:
            raise DiskFell()
        elif deed == 2:
            before = store.had()
            fresh = store.sync()
            self.assertEqual(store.had(), tuple(sorted(before + fresh)))
            self.assertEqual(store.had(), store.held())
        else:
            self.put(sample, disk, store, index)
        for index in store.had():
            had.setdefault(index, store.piece(index))

    def put(self, sample, disk, store, index):
        octets = sample.pieces[index]
        if self.chance.randrange(4) == 0:
            octets = forged(octets) or octets
        held = index in store.held()
        disk.passed.clear()
        try:
            self.assertIs(store.put(index, octets, sample.proofs[index]), not held)
            self.assertIn(index, store.held())
        except BadPiece:
            self.assertNotEqual(octets, sample.pieces[index])
        # What is held is not written again.
        if held:
            self.again += 1
            self.assertEqual(disk.passed, [])

    def agree(self, sample, store, had):
        for index, octets in had.items():
            self.assertIn(index, store.had())
            self.assertEqual(store.piece(index), octets)
        self.assertLessEqual(set(store.had()), set(store.held()))
        for index in store.held():
            octets, proof = store.piece(index), store.proof(index)
            self.assertIs(fits(sample.hasher, sample.description, index, octets, proof), True)

    def test_509_with_plain_sums_and_forged_pieces(self):
        for size in (1, 2, 4):
            for total in (3, 8, 17):
                for _ in range(12):
                    self.play(Sample(total, kind=("sum", size)), 60)
        self.assertGreater(self.falls, 500)
        self.assertGreater(self.again, 500)

    def test_509_with_sha(self):
        self.play(Sample(40, kind=SHA, size=16), 60)

    def test_509_what_a_store_has_and_a_fall_behind_it_with_anything_kept(self):
        sample = Sample(17)
        for count in range(6):
            disk = Spy(disk_size(sample.description))
            store = Store(disk, sample.description)
            for index in range(5):
                store.put(index, sample.pieces[index], sample.proofs[index])
                if index == count:
                    store.sync()
            disk.fall(tuple(self.chance.randrange(8) for _ in range(10)))
            behind = Store(disk, sample.description)
            self.assertLessEqual(set(range(count + 1 if count < 5 else 0)), set(behind.had()))
            self.assertEqual(behind.life(), 2)

    def test_509_forged_pieces_with_the_same_sum_are_found_here(self):
        sample = Sample(17, kind=("sum", 1))
        found = [index for index, piece in enumerate(sample.pieces) if forged(piece)]
        self.assertNotEqual(found, [])
        hasher = Hasher(("sum", 1))
        for index in found:
            piece = sample.pieces[index]
            self.assertNotEqual(forged(piece), piece)
            self.assertEqual(hasher.digest((0,) + forged(piece)), hasher.digest((0,) + piece))


if __name__ == "__main__":
    unittest.main()

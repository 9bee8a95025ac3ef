"""Points 503 to 508, and the heading swarmwhole/store.py of the interface."""

import unittest

from swarmwhole.digests import Hasher
from swarmwhole.disk import Disk
from swarmwhole.errors import BadPiece, DiskFell
from swarmwhole.store import Store, disk_size, fits
from swarmwhole.trees import depth, fold
from tests.helpers import ANY_VALUES, Unchanged
from tests.samples import SHA, Sample, path, raw


FIVE = Sample(9, 0, 10)
ONE = Sample(3)
HASHED = Sample(40, kind=SHA, size=16)


def number(life):
    return tuple(life.to_bytes(8, "big"))


def lives(first, second):
    return number(first) * 2 + number(second) * 2


def whole(disk, sample):
    return disk.read(0, disk_size(sample.description))


class StoreCase(unittest.TestCase):
    def holds(self, store, sample, held, had):
        """That the store tells of each piece what is held, and what is had."""
        self.assertEqual((store.held(), store.had()), (held, had))
        for index, piece in enumerate(sample.pieces):
            self.assertEqual(store.piece(index), piece if index in held else None)
            self.assertEqual(store.proof(index), sample.proofs[index] if index in held else None)
        self.assertIs(store.complete(), len(had) == len(sample.pieces))


class Sizes(unittest.TestCase):
    def test_503_life_places_and_slots(self):
        self.assertEqual(disk_size(FIVE.description), 32 + 19 + 5 * 3 * 2)
        self.assertEqual(disk_size(ONE.description), 32 + 3)
        self.assertEqual(disk_size(HASHED.description), 32 + 40 + 3 * 2 * 24)
        many = raw(size=8, files=((path("a"), 8 * 4096), (path("b"), 0)))
        self.assertEqual(disk_size(many), 32 + 8 * 4096 + 4096 * 12 * 2)
        for total in (1, 4, 5, 16, 17, 33):
            for kind in (("sum", 1), ("sum", 8), SHA):
                sample = Sample(total, kind=kind)
                self.assertEqual(disk_size(sample.description), 32 + len(sample.slots()))


class Fits(unittest.TestCase):
    def check(self, due, sample, *given):
        with Unchanged(self, sample.description, *given):
            self.assertIs(fits(sample.hasher, sample.description, *given), due)

    def test_505_the_right_ones(self):
        for sample in (FIVE, ONE, HASHED):
            for index, piece in enumerate(sample.pieces):
                self.check(True, sample, index, piece, sample.proofs[index])

    def test_505_what_does_not_fit(self):
        for sample in (FIVE, ONE, HASHED):
            for index, piece in enumerate(sample.pieces):
                proof = sample.proofs[index]
                for place in range(len(piece)):
                    changed = piece[:place] + ((piece[place] + 1) % 256,) + piece[place + 1:]
                    self.check(False, sample, index, changed, proof)
                for place, item in enumerate(proof):
                    changed = proof[:place] + (item[:-1] + ((item[-1] + 1) % 256,),) + proof[place + 1:]
                    self.check(False, sample, index, piece, changed)
                    self.check(False, sample, index, piece, proof[:place])
                self.check(False, sample, index, piece[:-1], proof)
                self.check(False, sample, index, piece + (0,), proof)
                self.check(False, sample, index, piece, proof + ((0,) * sample.hasher.size,))
                for other in range(len(sample.pieces)):
                    if other != index:
                        self.check(False, sample, other, piece, proof)

    def test_505_octets_that_fold_to_the_root_but_are_too_many(self):
        # With digests of one octet, a piece of another length with the same digest is soon found.
        sample = Sample(9, kind=("sum", 1))
        due = sample.hasher.digest((0,) + sample.pieces[0])
        forged = [sample.pieces[0][:3] + (more, last) for more in range(256) for last in range(256)
                  if sample.hasher.digest((0,) + sample.pieces[0][:3] + (more, last)) == due]
        self.assertNotEqual(forged, [])
        for octets in forged[:5]:
            self.check(False, sample, 0, octets, sample.proofs[0])

    def test_505_a_forged_piece_with_the_same_digest_fits(self):
        sample = Sample(9, kind=("sum", 1))
        first = sample.pieces[0]
        # 31 times the one more and 31 less of the next one leave the digest as it is.
        forged = (first[0] + 1, first[1] - 31) + first[2:] if first[1] >= 31 else (first[0] - 1,
                                                                                   first[1] + 31) + first[2:]
        self.assertTrue(all(0 <= octet < 256 for octet in forged))
        self.check(True, sample, 0, forged, sample.proofs[0])

    def test_505_indexes_that_fold_like_others(self):
        # All bits of -1 are 1, as those of the last index of four are.
        four = Sample(16)
        self.check(True, four, 3, four.pieces[3], four.proofs[3])
        self.check(False, four, -1, four.pieces[3], four.proofs[3])
        self.check(False, four, 7, four.pieces[3], four.proofs[3])
        # Behind the last one of whole pieces there would be one without octets; some proof folds to the root.
        two = Sample(8, kind=("sum", 1))
        found = [((octet,),) for octet in range(256) if fold(two.hasher, 2, (), ((octet,),)) == two.description[4]]
        self.assertNotEqual(found, [])
        self.check(False, two, 2, (), found[0])

    def test_505_any_index_any_octets_and_any_proof(self):
        piece, proof = FIVE.pieces[1], FIVE.proofs[1]
        for value in (*ANY_VALUES, -1, 5, 6, True, 1.0, "1", None, (1,), [1]):
            if value != 1 or isinstance(value, (bool, float)):
                self.check(False, FIVE, value, piece, proof)
            self.check(False, FIVE, 1, value, proof)
            self.check(False, FIVE, 1, piece, value)
        self.check(False, FIVE, 1, list(piece), proof)
        self.check(False, FIVE, 1, piece, list(proof))
        self.check(False, FIVE, 1, piece, tuple(list(item) for item in proof))
        self.check(False, FIVE, 1, piece[:3] + (256,), proof)
        self.check(False, ONE, 0, ONE.pieces[0], ((0, 0),))
        self.check(False, ONE, False, ONE.pieces[0], ())
        self.check(True, ONE, 0, ONE.pieces[0], ())


class Lives(StoreCase):
    def life(self, *octets):
        """The store behind these octets in the life places, and the disk."""
        disk = FIVE.disk()
        disk.write(0, sum(octets, ()))
        store = Store(disk, FIVE.description)
        self.assertEqual(disk.pending(), 0)
        return store.life(), disk.read(0, 32)

    def test_504_the_first_life(self):
        disk = FIVE.disk()
        store = Store(disk, FIVE.description)
        self.assertEqual(store.life(), 1)
        self.assertEqual(whole(disk, FIVE), lives(0, 1) + FIVE.slots())
        self.assertEqual(disk.pending(), 0)

    def test_504_each_life_is_written_into_its_place(self):
        disk = FIVE.disk()
        for life, places in ((1, (0, 1)), (2, (2, 1)), (3, (2, 3)), (4, (4, 3)), (5, (4, 5))):
            self.assertEqual(Store(disk, FIVE.description).life(), life)
            disk.fall(())
            self.assertEqual(disk.read(0, 32), lives(*places))

    def test_504_the_greatest_readable_life_counts(self):
        for first, second in ((1, 2), (2, 1), (7, 6), (6, 7), (300, 2), (3, 2 ** 40), (5, 5), (2 ** 63, 1), (4, 0),
                              (0, 9)):
            life = max(first, second) + 1
            due = lives(life, second) if life % 2 == 0 else lives(first, life)
            self.assertEqual(self.life(lives(first, second)), (life, due))

    def test_504_places_that_are_not_readable(self):
        torn = number(9)[:4] + (0,) * 4 + number(9)
        for one in (number(9) + number(8), torn, number(0) + number(9), number(9) + number(0),
                    number(255) + number(256)):
            life, octets = self.life(one, number(4) * 2)
            self.assertEqual((life, octets), (5, one + number(5) * 2))
            life, octets = self.life(number(3) * 2, one)
            self.assertEqual((life, octets), (4, number(4) * 2 + one))
            self.assertEqual(self.life(one, one), (1, one + number(1) * 2))
        self.assertEqual(self.life(lives(0, 0)), (1, lives(0, 1)))

    def test_503_a_number_has_its_highest_octet_first(self):
        self.assertEqual(self.life((0,) * 6 + (1, 1) + (0,) * 6 + (1, 1), number(0) * 2), (258, lives(258, 0)))

    def test_504_it_is_greater_than_all_before(self):
        disk, before = FIVE.disk(), 0
        for count in range(40):
            disk.write(0, ())
            disk.arm(count % 4)
            try:
                store = Store(disk, FIVE.description)
            except DiskFell:
                disk.fall((count % 17,) * 2)
                continue
            self.assertGreater(store.life(), before)
            before = store.life()
            disk.fall(())
        self.assertGreaterEqual(before, 20)

    def test_504_pending_writes_become_durable_too(self):
        disk = FIVE.disk()
        disk.write(32, FIVE.slot(0))
        store = Store(disk, FIVE.description)
        self.holds(store, FIVE, (0,), (0,))
        disk.fall(())
        self.holds(Store(disk, FIVE.description), FIVE, (0,), (0,))

    def test_504_one_write_and_one_sync(self):
        for count in (0, 1):
            disk = FIVE.disk()
            disk.arm(count)
            self.assertRaises(DiskFell, Store, disk, FIVE.description)
            self.assertEqual(disk.pending(), count)
        disk = FIVE.disk()
        disk.arm(2)
        Store(disk, FIVE.description)
        self.assertRaises(DiskFell, disk.write, 0, ())

    def test_504_a_disk_that_has_fallen(self):
        disk = FIVE.disk()
        disk.arm(0)
        self.assertRaises(DiskFell, disk.sync)
        self.assertRaises(DiskFell, Store, disk, FIVE.description)


class Slots(StoreCase):
    def test_503_the_disk_behind_puts(self):
        for sample in (FIVE, HASHED):
            disk = sample.disk()
            store = Store(disk, sample.description)
            for count, index in enumerate(reversed(range(len(sample.pieces)))):
                self.assertIs(sample.put(store, index), True)
                there = range(index, len(sample.pieces))
                self.assertEqual(whole(disk, sample), lives(0, 1) + sample.slots(*there))
                self.assertEqual(disk.pending(), 2 * count + 2)

    def test_504_slots_with_what_fits(self):
        for sample in (FIVE, ONE, HASHED):
            count = len(sample.pieces)
            for held in {(), tuple(range(count)), (0,), (count - 1,), tuple(range(0, count, 2))}:
                disk = sample.disk()
                disk.write(32, sample.slots(*held))
                self.holds(Store(disk, sample.description), sample, held, held)
                self.assertEqual(whole(disk, sample), lives(0, 1) + sample.slots(*held))

    def test_504_slots_with_one_changed_octet(self):
        octets = FIVE.slots(0, 1, 2, 3, 4)
        for place in range(len(octets)):
            disk = FIVE.disk()
            disk.write(32, octets)
            disk.write(32 + place, ((octets[place] + 1) % 256,))
            there = tuple(index for index in range(5) if index != place // 10)
            self.holds(Store(disk, FIVE.description), FIVE, there, there)

    def test_504_the_octets_of_another_piece(self):
        disk = FIVE.disk()
        disk.write(32, FIVE.slot(1) + FIVE.slot(0) + FIVE.slot(2))
        self.holds(Store(disk, FIVE.description), FIVE, (2,), (2,))

    def test_504_torn_slots(self):
        slot = FIVE.slot(3)
        for count in range(len(slot)):
            disk = FIVE.disk()
            disk.write(32 + 30, slot[:count])
            self.holds(Store(disk, FIVE.description), FIVE, (), ())

    def test_504_a_blank_slot_may_fit(self):
        sample = Sample(4, 8, kind=("sum", 1))
        zeros = Hasher(("sum", 1))
        files = ((path("a"), (0,) * 4),)
        description = (sample.description[0], ("sum", 1), 4, ((path("a"), 4),), zeros.digest((0, 0, 0, 0, 0)))
        store = Store(Disk(disk_size(description)), description)
        self.assertEqual((store.had(), store.piece(0), store.proof(0)), ((0,), files[0][1], ()))
        self.assertIs(store.complete(), True)
        self.assertIs(store.put(0, (0,) * 4, ()), False)


class Puts(StoreCase):
    def test_506_held_at_once_and_had_behind_a_sync(self):
        store = FIVE.store()
        self.holds(store, FIVE, (), ())
        for index, held in ((3, (3,)), (0, (0, 3)), (4, (0, 3, 4))):
            self.assertIs(FIVE.put(store, index), True)
            self.holds(store, FIVE, held, ())
        self.assertEqual(store.sync(), (0, 3, 4))
        self.holds(store, FIVE, (0, 3, 4), (0, 3, 4))
        self.assertIs(FIVE.put(store, 1), True)
        self.holds(store, FIVE, (0, 1, 3, 4), (0, 3, 4))
        self.assertIs(FIVE.put(store, 2), True)
        self.assertIs(store.complete(), False)
        self.assertEqual(store.sync(), (1, 2))
        self.holds(store, FIVE, (0, 1, 2, 3, 4), (0, 1, 2, 3, 4))

    def test_506_two_writes_the_octets_and_then_the_proof(self):
        disk = FIVE.disk()
        store = Store(disk, FIVE.description)
        FIVE.put(store, 1)
        self.assertEqual(disk.pending(), 2)
        disk.fall((4, 0))
        self.assertEqual(disk.read(32, 20), (0,) * 10 + FIVE.pieces[1] + (0,) * 6)
        store = Store(disk, FIVE.description)
        FIVE.put(store, 2)
        disk.fall((0, 6))
        self.assertEqual(disk.read(52, 10), (0,) * 4 + FIVE.slot(2)[4:])

    def test_506_a_proof_without_digests_is_not_written(self):
        disk = ONE.disk()
        store = Store(disk, ONE.description)
        self.assertIs(ONE.put(store, 0), True)
        self.assertEqual(disk.pending(), 1)
        self.holds(store, ONE, (0,), ())
        self.assertEqual(store.sync(), (0,))
        self.assertEqual(whole(disk, ONE), lives(0, 1) + ONE.pieces[0])
        self.holds(Store(disk, ONE.description), ONE, (0,), (0,))

    def test_506_a_put_of_a_piece_that_is_held(self):
        disk = FIVE.disk()
        store = Store(disk, FIVE.description)
        FIVE.put(store, 1)
        self.assertIs(FIVE.put(store, 1), False)
        self.assertEqual(disk.pending(), 2)
        store.sync()
        disk.arm(0)
        self.assertIs(FIVE.put(store, 1), False)
        self.assertEqual(disk.pending(), 0)
        self.holds(store, FIVE, (1,), (1,))

    def test_506_a_held_piece_stays_when_another_one_fits_too(self):
        sample = Sample(9, kind=("sum", 1))
        first = sample.pieces[0]
        forged = (first[0] + 1, first[1] - 31) + first[2:] if first[1] >= 31 else (first[0] - 1,
                                                                                   first[1] + 31) + first[2:]
        store = sample.store(0)
        self.assertIs(store.put(0, forged, sample.proofs[0]), False)
        self.holds(store, sample, (0,), (0,))
        forging = sample.store()
        self.assertIs(forging.put(0, forged, sample.proofs[0]), True)
        self.assertIs(sample.put(forging, 0), False)
        self.assertEqual(forging.piece(0), forged)

    def test_506_what_is_refused_leaves_everything_as_it_was(self):
        disk = FIVE.disk()
        store = FIVE.store(2, disk=disk)
        before = whole(disk, FIVE)
        piece, proof = FIVE.pieces[1], FIVE.proofs[1]
        wrong = [(index, piece, proof) for index in (-1, 0, 2, 4, 5, 2 ** 70, True, False, "1", None, 1.0, (1,), [1])]
        wrong += [(1, octets, proof) for octets in (*ANY_VALUES, list(piece), piece[:3], piece + (0,), piece[::-1])]
        wrong += [(1, piece, other) for other in (*ANY_VALUES, list(proof), proof[:2], proof[::-1], proof + ((0, 0),))]
        wrong += [(2, piece, proof), (2, FIVE.pieces[2], proof), (2, FIVE.pieces[2][:-1] + (0,), FIVE.proofs[2])]
        for given in wrong:
            with self.subTest(given), Unchanged(self, *given):
                self.assertRaises(BadPiece, store.put, *given)
        self.holds(store, FIVE, (2,), (2,))
        self.assertEqual((whole(disk, FIVE), disk.pending()), (before, 0))
        self.assertIs(FIVE.put(store, 1), True)

    def test_506_a_wrong_piece_is_told_ahead_of_a_fall(self):
        disk = FIVE.disk()
        store = Store(disk, FIVE.description)
        disk.arm(0)
        self.assertRaises(BadPiece, store.put, 0, FIVE.pieces[1], FIVE.proofs[1])
        self.assertRaises(DiskFell, FIVE.put, store, 0)
        self.assertRaises(BadPiece, store.put, 0, FIVE.pieces[1], FIVE.proofs[1])

    def test_pieces_that_there_are_not(self):
        store = FIVE.store(0)
        for index in (-1, 5, 1000):
            self.assertIsNone(store.piece(index))
            self.assertIsNone(store.proof(index))


class Syncs(StoreCase):
    def test_507_nothing_to_sync_does_not_touch_the_disk(self):
        disk = FIVE.disk()
        store = FIVE.store(0, 1, disk=disk)
        disk.write(0, ())
        disk.arm(0)
        self.assertEqual(store.sync(), ())
        self.assertEqual(disk.pending(), 1)
        self.assertRaises(DiskFell, disk.sync)
        self.assertEqual(store.sync(), ())
        self.holds(store, FIVE, (0, 1), (0, 1))

    def test_507_one_sync_for_all(self):
        disk = FIVE.disk()
        store = Store(disk, FIVE.description)
        FIVE.put(store, 4)
        FIVE.put(store, 1)
        disk.arm(1)
        self.assertEqual(store.sync(), (1, 4))
        self.assertEqual(disk.pending(), 0)
        self.assertRaises(DiskFell, disk.sync)

    def test_507_a_sync_that_falls(self):
        disk = FIVE.disk()
        store = FIVE.store(0, disk=disk)
        FIVE.put(store, 1)
        disk.arm(0)
        self.assertRaises(DiskFell, store.sync)
        disk.fall(())
        self.holds(Store(disk, FIVE.description), FIVE, (0,), (0,))

    def test_508_stores_one_behind_the_other(self):
        disk = FIVE.disk()
        for index in range(5):
            store = Store(disk, FIVE.description)
            self.holds(store, FIVE, tuple(range(index)), tuple(range(index)))
            FIVE.put(store, index)
            self.assertEqual(store.sync(), (index,))
            disk.fall((9,) * index)


class TornPuts(StoreCase):
    def test_506_a_fall_in_a_put_with_each_number_of_octets_kept(self):
        for sample in (FIVE, HASHED):
            index = 1
            length, behind = len(sample.pieces[index]), len(sample.slot(index)) - len(sample.pieces[index])
            for count in (0, 1):
                for first in range(length + 2):
                    disk = sample.disk()
                    store = sample.store(0, disk=disk)
                    disk.arm(count)
                    self.assertRaises(DiskFell, sample.put, store, index)
                    disk.fall((first, behind))
                    self.holds(Store(disk, sample.description), sample, (0,), (0,))

    def test_507_a_fall_in_a_sync_with_each_number_of_octets_kept(self):
        length, behind = 4, 6
        for first in range(length + 1):
            for second in range(behind + 1):
                disk = FIVE.disk()
                store = FIVE.store(0, disk=disk)
                FIVE.put(store, 1)
                disk.arm(0)
                self.assertRaises(DiskFell, store.sync)
                disk.fall((first, second))
                due = (0, 1) if (first, second) == (length, behind) else (0,)
                self.holds(Store(disk, FIVE.description), FIVE, due, due)

    def test_504_a_fall_in_the_making_of_a_store_with_each_number_of_octets_kept(self):
        for life in range(1, 4):
            for kept in range(18):
                disk = FIVE.disk()
                for _ in range(life):
                    FIVE.store(0, disk=disk)
                disk.arm(1)
                self.assertRaises(DiskFell, Store, disk, FIVE.description)
                disk.fall((kept,))
                # The number is so small that its last octet alone is written: it counts with the second one.
                store = Store(disk, FIVE.description)
                self.assertEqual(store.life(), life + 2 if kept >= 16 else life + 1)
                self.holds(store, FIVE, (0,), (0,))


class Depths(unittest.TestCase):
    def test_503_the_slot_of_the_last_piece(self):
        for total in (5, 8, 9, 12, 13, 31, 32, 33):
            sample = Sample(total)
            last = len(sample.pieces) - 1
            disk = sample.disk()
            sample.store(last, disk=disk)
            offset = 32 + last * (4 + 2 * depth(last + 1))
            self.assertEqual(disk.read(offset, len(sample.slot(last))), sample.slot(last))
            self.assertEqual(offset + len(sample.slot(last)), disk_size(sample.description))


if __name__ == "__main__":
    unittest.main()

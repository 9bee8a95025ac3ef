"""Points 500 to 502, and the heading swarmwhole/disk.py of the interface."""

import random
import unittest

from swarmwhole.disk import Disk
from swarmwhole.errors import DiskFell
from tests.helpers import Unchanged


class Told:
    """A disk as points 500 to 502 tell it: its durable octets, and all that happened since."""

    def __init__(self, size):
        self.durable = (0,) * size
        self.writes = []
        self.left = None
        self.down = False

    @staticmethod
    def over(octets, offset, part):
        return octets[:offset] + part + octets[offset + len(part):]

    def passes(self):
        """True if one more operation passes; if not, the disk has fallen."""
        if not self.down and self.left == 0:
            self.down = True
        elif not self.down and self.left is not None:
            self.left -= 1
        return not self.down

    def write(self, offset, octets):
        self.writes.append((offset, octets))

    def seen(self):
        octets = self.durable
        for offset, part in self.writes:
            octets = self.over(octets, offset, part)
        return octets

    def sync(self):
        self.durable, self.writes = self.seen(), []

    def fall(self, kept):
        counts = list(kept) + [0] * len(self.writes)
        for (offset, part), count in zip(self.writes, counts):
            self.durable = self.over(self.durable, offset, part[:count])
        self.writes, self.left, self.down = [], None, False


class DiskCase(unittest.TestCase):
    def check(self, disk, octets, pending):
        self.assertEqual(disk.read(0, len(octets)), octets)
        self.assertIsInstance(disk.read(0, len(octets)), tuple)
        self.assertEqual(disk.pending(), pending)

    def down(self, disk):
        """The disk has fallen: everything raises but what still may be called."""
        self.assertRaises(DiskFell, disk.write, 0, (9,))
        self.assertRaises(DiskFell, disk.write, 0, ())
        self.assertRaises(DiskFell, disk.sync)
        self.assertRaises(DiskFell, disk.read, 0, 1)
        self.assertRaises(DiskFell, disk.read, 0, 0)


class Writes(DiskCase):
    def test_500_all_octets_are_0_at_first(self):
        self.check(Disk(7), (0,) * 7, 0)

    def test_500_a_disk_of_no_octets(self):
        disk = Disk(0)
        self.check(disk, (), 0)
        self.assertIsNone(disk.write(0, ()))
        self.check(disk, (), 1)
        disk.sync()
        disk.write(0, ())
        disk.fall((5,))
        self.check(disk, (), 0)

    def test_500_written_octets_are_read_at_once(self):
        disk = Disk(6)
        written = (1, 2, 3)
        with Unchanged(self, written):
            self.assertIsNone(disk.write(2, written))
        self.check(disk, (0, 0, 1, 2, 3, 0), 1)
        for offset in range(7):
            for count in range(7 - offset):
                self.assertEqual(disk.read(offset, count), (0, 0, 1, 2, 3, 0)[offset:offset + count])

    def test_500_writes_over_one_another(self):
        disk = Disk(6)
        disk.write(0, (1, 1, 1, 1))
        disk.write(2, (2, 2, 2, 2))
        disk.write(3, (3,))
        self.check(disk, (1, 1, 2, 3, 2, 2), 3)
        self.assertIsNone(disk.sync())
        self.check(disk, (1, 1, 2, 3, 2, 2), 0)
        disk.fall(())
        self.check(disk, (1, 1, 2, 3, 2, 2), 0)

    def test_500_an_empty_write_is_pending_too(self):
        disk = Disk(3)
        disk.write(3, ())
        disk.write(0, (1,))
        self.check(disk, (1, 0, 0), 2)
        disk.fall((0, 1))
        self.check(disk, (1, 0, 0), 0)

    def test_500_a_sync_with_nothing_pending(self):
        disk = Disk(2)
        disk.sync()
        self.check(disk, (0, 0), 0)

    def test_500_two_disks(self):
        one, other = Disk(2), Disk(2)
        one.write(0, (1, 1))
        self.check(other, (0, 0), 0)


class Falls(DiskCase):
    def disk(self):
        """Durable are 1 and 2; three writes are pending, one over the other."""
        disk = Disk(6)
        disk.write(0, (1, 2))
        disk.sync()
        disk.write(1, (3, 4, 5))
        disk.write(0, (6, 7))
        disk.write(3, (8, 9, 10))
        self.check(disk, (6, 7, 4, 8, 9, 10), 3)
        return disk

    def test_501_what_is_kept(self):
        due = {
            (): (1, 2, 0, 0, 0, 0), (0, 0, 0): (1, 2, 0, 0, 0, 0), (1,): (1, 3, 0, 0, 0, 0),
            (2, 1): (6, 3, 4, 0, 0, 0), (3, 2, 3): (6, 7, 4, 8, 9, 10), (0, 2): (6, 7, 0, 0, 0, 0),
            (0, 0, 2): (1, 2, 0, 8, 9, 0), (3, 0, 1): (1, 3, 4, 8, 0, 0), (3,): (1, 3, 4, 5, 0, 0),
        }
        for kept, octets in due.items():
            for counts in (kept, list(kept)):
                disk = self.disk()
                with self.subTest(kept), Unchanged(self, counts):
                    self.assertIsNone(disk.fall(counts))
                    self.check(disk, octets, 0)

    def test_501_more_numbers_than_writes(self):
        disk = self.disk()
        disk.fall((1, 0, 0, 3, 3))
        self.check(disk, (1, 3, 0, 0, 0, 0), 0)
        disk.fall((3, 3))
        self.check(disk, (1, 3, 0, 0, 0, 0), 0)

    def test_501_numbers_greater_than_a_write(self):
        disk = self.disk()
        disk.fall((4, 0, 1000))
        self.check(disk, (1, 3, 4, 8, 9, 10), 0)

    def test_501_behind_a_fall_it_goes_on(self):
        disk = self.disk()
        disk.fall((1,))
        disk.write(4, (11, 12))
        self.check(disk, (1, 3, 0, 0, 11, 12), 1)
        disk.sync()
        disk.fall(())
        self.check(disk, (1, 3, 0, 0, 11, 12), 0)

    def test_501_a_second_fall_finds_nothing_pending(self):
        disk = self.disk()
        disk.fall((0, 1))
        disk.fall((5, 5, 5))
        self.check(disk, (6, 2, 0, 0, 0, 0), 0)


class Arms(DiskCase):
    def test_502_the_operation_behind_the_count_falls(self):
        for count in range(5):
            disk = Disk(8)
            self.assertIsNone(disk.arm(count))
            for place in range(count):
                disk.write(place, (1,)) if place % 2 == 0 else disk.sync()
            pending = disk.pending()
            self.assertRaises(DiskFell, disk.write, 0, (9,))
            self.assertEqual(disk.pending(), pending)
            self.down(disk)
            self.assertEqual(disk.pending(), pending)
            disk.fall((1,) * 9)
            self.check(disk, tuple(int(place % 2 == 0 and place < count) for place in range(8)), 0)

    def test_502_a_sync_that_falls_makes_nothing_durable(self):
        disk = Disk(2)
        disk.write(0, (1,))
        disk.write(1, (2,))
        disk.arm(0)
        self.assertRaises(DiskFell, disk.sync)
        self.assertEqual(disk.pending(), 2)
        disk.fall((0, 1))
        self.check(disk, (0, 2), 0)

    def test_502_a_write_that_falls_is_not_pending(self):
        disk = Disk(2)
        disk.arm(1)
        disk.write(0, (1,))
        self.assertRaises(DiskFell, disk.write, 1, (2,))
        self.assertEqual(disk.pending(), 1)
        disk.fall((1, 1))
        self.check(disk, (1, 0), 0)

    def test_502_an_empty_write_is_an_operation(self):
        disk = Disk(1)
        disk.arm(1)
        disk.write(0, ())
        self.assertRaises(DiskFell, disk.write, 0, ())

    def test_502_reading_and_asking_are_no_operations(self):
        disk = Disk(2)
        disk.arm(0)
        for _ in range(3):
            self.check(disk, (0, 0), 0)
        self.assertRaises(DiskFell, disk.sync)

    def test_502_a_fall_disarms(self):
        disk = Disk(1)
        disk.arm(2)
        disk.fall(())
        for _ in range(5):
            disk.write(0, (1,))
            disk.sync()
        self.check(disk, (1,), 0)

    def test_502_arm_replaces_an_earlier_one(self):
        disk = Disk(1)
        disk.arm(0)
        disk.arm(2)
        disk.write(0, (1,))
        disk.arm(1)
        disk.sync()
        self.assertRaises(DiskFell, disk.sync)
        self.down(disk)

    def test_502_arm_on_a_disk_that_has_fallen(self):
        for count in (0, 1, 100):
            disk = Disk(1)
            disk.arm(0)
            self.assertRaises(DiskFell, disk.sync)
            self.assertIsNone(disk.arm(count))
            self.down(disk)
            disk.fall(())
            for _ in range(3):
                disk.write(0, (1,))
                disk.sync()
            self.check(disk, (1,), 0)

    def test_502_a_disk_that_is_armed_and_never_falls(self):
        disk = Disk(1)
        disk.arm(10)
        for _ in range(10):
            disk.write(0, (1,))
        self.check(disk, (1,), 10)


class Drawn(DiskCase):
    def test_500_to_502_in_drawn_orders(self):
        chance = random.Random(502)
        for _ in range(300):
            size = chance.randrange(9)
            disk, due = Disk(size), Told(size)
            for _ in range(30):
                self.step(chance, size, disk, due)
                self.assertEqual(disk.pending(), len(due.writes))
                if due.down:
                    self.assertRaises(DiskFell, disk.read, 0, size)
                else:
                    self.assertEqual(disk.read(0, size), due.seen())

    def step(self, chance, size, disk, due):
        deed = chance.choice(("write", "write", "write", "sync", "arm", "fall"))
        if deed == "write":
            offset = chance.randrange(size + 1)
            octets = tuple(chance.randrange(256) for _ in range(chance.randrange(size - offset + 1)))
            if due.passes():
                due.write(offset, octets)
                disk.write(offset, octets)
            else:
                self.assertRaises(DiskFell, disk.write, offset, octets)
        elif deed == "sync":
            if due.passes():
                due.sync()
                disk.sync()
            else:
                self.assertRaises(DiskFell, disk.sync)
        elif deed == "arm":
            due.left = chance.randrange(6)
            disk.arm(due.left)
        elif chance.randrange(2) == 0 or due.down:
            kept = [chance.randrange(5) for _ in range(chance.randrange(5))]
            due.fall(kept)
            disk.fall(kept)


if __name__ == "__main__":
    unittest.main()

"""Points 1010 to 1013, and the heading swarmwhole/keeper.py of the interface."""

import unittest

from swarmwhole.content import cut
from swarmwhole.digests import Hasher
from swarmwhole.disk import Disk
from swarmwhole.errors import BadHistory, BadKeeper, DiskFell
from swarmwhole.keeper import Keeper, keeper_size
from swarmwhole.leaves import proofs_of
from swarmwhole.plans import made
from swarmwhole.store import Store, disk_size
from tests.drawn import collision
from tests.helpers import ANY_VALUES, Unchanged, told
from tests.keepers import Box, Spy
from tests.samples import SHA
from tests.test_histories import WRONG_HISTORIES
from tests.versions import files, history

A, B, C, D = (1, 2, 3, 4), (5, 6, 7, 8), (9, 10, 11, 12), (13, 14, 15, 16)
VERSIONS = files(a=A + B + C + (1, 2)), files(a=C + D + A), files(b=(9,), a=A + B + C + (1, 2))


def box_of(*versions, kind=("sum", 2)):
    return Box(history(*versions, kind=kind), *versions)


BOX = box_of(*VERSIONS)


class KeeperCase(unittest.TestCase):
    def holds(self, keeper, version, serial, *indexes, box=BOX):
        """What a keeper tells."""
        self.assertEqual((keeper.version(), keeper.serial()), (version, serial))
        self.assertIsInstance(keeper.store(), Store)
        self.assertEqual(keeper.store().had(), indexes)
        self.assertEqual(keeper.had(), {index: box.pieces[version][index] for index in indexes})

    def marked(self, *marks, box=BOX):
        """A disk with octets in the places of the marks."""
        disk = box.disk()
        for place, octets in enumerate(marks):
            disk.write(32 * place, octets)
        disk.sync()
        disk.taken()
        return disk


class Opening(KeeperCase):
    def test_1010_the_size_of_the_disk(self):
        self.assertEqual([keeper_size(size) for size in (0, 1, 40, 1000)], [64, 66, 144, 2064])

    def test_1011_a_disk_of_zeros(self):
        disk = BOX.disk()
        with Unchanged(self, BOX.history):
            keeper = Keeper(disk, BOX.size, BOX.history)
        self.holds(keeper, 0, 1)
        self.assertEqual(disk.taken(), [(32, BOX.mark(1, 0)), "sync", BOX.life(1, 1), "sync"])
        due = (0,) * 32 + BOX.mark(1, 0) + (0,) * BOX.size + (0,) * 16 + (0, 0, 0, 0, 0, 0, 0, 1) * 2
        self.assertEqual(disk.octets(), due + (0,) * (BOX.size - 32))
        self.assertEqual(disk.pending(), 0)

    def test_1011_opened_again(self):
        disk = BOX.disk()
        BOX.keeper(disk, 2, 0)
        disk.taken()
        for life in (2, 3, 4):
            keeper = Keeper(disk, BOX.size, BOX.history)
            self.holds(keeper, 0, 1, 0, 2)
            self.assertEqual(disk.taken(), [BOX.life(1, life), "sync"])
            self.assertEqual(keeper.store().life(), life)

    def test_1011_the_readable_mark_with_the_greatest_serial(self):
        zero, torn = (0,) * 32, BOX.mark(9, 1)[:31] + (7,)
        mark = BOX.mark
        for marks, version, serial in (
            ((mark(2, 1), zero), 1, 2), ((zero, mark(1, 2)), 2, 1), ((mark(2, 1), mark(1, 2)), 1, 2),
            ((mark(2, 1), mark(3, 2)), 2, 3), ((mark(8, 0), mark(7, 2)), 0, 8), ((mark(2, 1), torn), 1, 2),
            ((torn, mark(3, 2)), 2, 3), ((mark(256, 1), mark(255, 2)), 1, 256), ((mark(256, 1), mark(257, 2)), 2, 257),
            ((mark(2 ** 60, 2), mark(2 ** 60 - 1, 1)), 2, 2 ** 60), ((mark(2, 1), mark(0, 2)), 1, 2),
            # One in the other place is readable, too.
            ((mark(3, 1), zero), 1, 3), ((zero, mark(2, 1)), 1, 2), ((mark(3, 1), mark(1, 2)), 1, 3),
        ):
            with self.subTest(marks):
                disk = self.marked(*marks)
                self.holds(Keeper(disk, BOX.size, BOX.history), version, serial)
                self.assertEqual(disk.taken(), [BOX.life(serial, 1), "sync"])
                self.assertEqual(disk.octets()[:64], marks[0] + marks[1])

    def test_1011_two_marks_with_one_serial(self):
        """The mark with a serial stands in the place of it."""
        mark = BOX.mark
        for marks, version, serial in (((mark(2, 1), mark(2, 2)), 1, 2), ((mark(3, 1), mark(3, 2)), 2, 3),
                                       ((mark(2, 2), mark(2, 1)), 2, 2), ((mark(3, 1), mark(3, 1)), 1, 3)):
            self.holds(Keeper(self.marked(*marks), BOX.size, BOX.history), version, serial)

    def test_1011_no_readable_mark(self):
        mark, zero = BOX.mark, (0,) * 32
        torn = (mark(2, 1)[:16] + zero[:16], zero[:16] + mark(2, 1)[:16], mark(2, 1)[:31] + (0,), mark(0, 2),
                mark(0, 9), mark(2, 1)[:16] + mark(2, 2)[:16], mark(2, 1)[:16] + mark(4, 1)[:16], (255,) * 31 + (254,),
                mark(3, 0)[:16] + mark(3, 1)[16:])
        for one in torn:
            for other in (zero, torn[0], torn[3]):
                disk = self.marked(one, other)
                self.holds(Keeper(disk, BOX.size, BOX.history), 0, 1)
                self.assertEqual(disk.taken(), [(32, mark(1, 0)), "sync", BOX.life(1, 1), "sync"])
                self.assertEqual(disk.octets()[:64], one + mark(1, 0))

    def test_1011_a_version_that_is_not_in_the_history(self):
        for marks in ((BOX.mark(2, 3), (0,) * 32), ((0,) * 32, BOX.mark(1, 3)),
                      (BOX.mark(4, 2 ** 64 - 1), BOX.mark(3, 1))):
            disk = self.marked(*marks)
            before = disk.octets()
            self.assertEqual(told(Keeper, disk, BOX.size, BOX.history), (BadKeeper, "version"))
            self.assertEqual((disk.octets(), disk.taken(), disk.pending()), (before, [], 0))
        # The mark that does not count may tell what it likes.
        self.holds(Keeper(self.marked(BOX.mark(2, 3), BOX.mark(3, 1)), BOX.size, BOX.history), 1, 3)
        disk = self.marked((0,) * 32, BOX.mark(1, 1))
        self.assertEqual(told(Keeper, disk, BOX.size, BOX.history[:1]), (BadKeeper, "version"))
        self.holds(Keeper(disk, BOX.size, BOX.history[:2]), 1, 1)

    def test_1010_halves_that_are_just_large_enough(self):
        sizes = [disk_size(entry[2]) for entry in BOX.history]
        self.assertEqual((max(sizes), sizes.index(max(sizes))), (BOX.size, 2))
        self.assertNotEqual(sizes[0], BOX.size)
        for size in (BOX.size, BOX.size + 1, BOX.size + 100):
            disk = Spy(keeper_size(size))
            keeper = Keeper(disk, size, BOX.history)
            BOX.put(keeper, 0, 1, 2, 3)
            self.assertEqual(keeper.move(2), (1, 2, 3))
            BOX.put(keeper, 0)
            self.holds(Keeper(disk, size, BOX.history), 2, 2, 0, 1, 2, 3)
            self.assertEqual(keeper.move(0), (0, 1, 2, 3))

    def test_one_octet_too_small(self):
        for size in (BOX.size - 1, 32, 0):
            disk = Spy(keeper_size(size))
            self.assertEqual(told(Keeper, disk, size, BOX.history), (BadKeeper, "size"))
            self.assertEqual((disk.octets(), disk.taken()), ((0,) * keeper_size(size), []))
        # Without the largest version it is enough.
        size = disk_size(BOX.history[0][2])
        self.assertIsInstance(Keeper(Disk(keeper_size(size)), size, BOX.history[:2]), Keeper)

    def test_which_error_comes_first(self):
        for value, number, reason in WRONG_HISTORIES:
            disk = Spy(keeper_size(3))
            disk.write(0, BOX.mark(2, 9))
            disk.taken()
            self.assertEqual(told(Keeper, disk, 3, value), (BadHistory, number, reason))
            self.assertEqual(disk.taken(), [])
        small = Spy(keeper_size(10))
        small.write(0, BOX.mark(2, 9))
        self.assertEqual(told(Keeper, small, 10, BOX.history), (BadKeeper, "size"))
        fallen = self.marked(BOX.mark(2, 9))
        fallen.arm(0)
        self.assertRaises(DiskFell, fallen.sync)
        self.assertRaises(DiskFell, Keeper, fallen, BOX.size, BOX.history)
        self.assertEqual(told(Keeper, fallen, BOX.size - 1, BOX.history), (BadKeeper, "size"))
        self.assertEqual(told(Keeper, fallen, BOX.size, None), (BadHistory, -1, "form"))

    def test_had_is_a_new_dictionary(self):
        keeper = BOX.keeper(BOX.disk(), 0, 1)
        keeper.had().clear()
        self.holds(keeper, 0, 1, 0, 1)
        # What is held and not had is not in it.
        keeper.store().put(2, BOX.pieces[0][2], BOX.proofs[0][2])
        self.assertEqual(sorted(keeper.had()), [0, 1])


class Moves(KeeperCase):
    def test_1012_the_operations_of_a_move(self):
        disk = BOX.disk()
        keeper = BOX.keeper(disk, 0, 1, 2, 3)
        disk.taken()
        self.assertEqual(keeper.move(1), (0, 2))
        self.assertEqual(disk.taken(), [BOX.life(2, 1), "sync", *BOX.slot(2, 1, 0), *BOX.slot(2, 1, 2), "sync",
                                        (0, BOX.mark(2, 1)), "sync"])
        self.holds(keeper, 1, 2, 0, 2)
        self.assertEqual(disk.pending(), 0)
        self.assertEqual(disk.octets()[:64], BOX.mark(2, 1) + BOX.mark(1, 0))

    def test_1012_the_octets_of_the_disk_behind_each_call(self):
        def octets(*operations):
            """A disk of zeros behind writes."""
            found = [0] * keeper_size(BOX.size)
            for offset, held in operations:
                found[offset:offset + len(held)] = held
            return tuple(found)

        disk = BOX.disk()
        keeper = Keeper(disk, BOX.size, BOX.history)
        passed = [(32, BOX.mark(1, 0)), BOX.life(1, 1)]
        self.assertEqual(disk.octets(), octets(*passed))
        BOX.put(keeper, 0, 1, 2, 3)
        passed += [operation for index in range(4) for operation in BOX.slot(1, 0, index)]
        self.assertEqual(disk.octets(), octets(*passed))
        keeper.move(2)
        passed += [BOX.life(2, 1), *[operation for index in (1, 2, 3) for operation in BOX.slot(2, 2, index)],
                   (0, BOX.mark(2, 2))]
        self.assertEqual(disk.octets(), octets(*passed))
        keeper.spread()
        self.assertEqual(disk.octets(), octets(*passed))
        keeper.move(1)
        # No piece can be made, and what stands in the slots of the half stays there.
        passed += [BOX.life(3, 2), (32, BOX.mark(3, 1))]
        self.assertEqual(keeper.had(), {})
        self.assertEqual(disk.octets(), octets(*passed))
        BOX.put(keeper, 1)
        passed += BOX.slot(3, 1, 1)
        self.assertEqual(disk.octets(), octets(*passed))
        Keeper(disk, BOX.size, BOX.history)
        self.assertEqual(disk.octets(), octets(*passed, BOX.life(3, 3)))

    def test_1012_without_a_piece_to_put(self):
        disk = BOX.disk()
        keeper = BOX.keeper(disk, 1)
        disk.taken()
        self.assertEqual(keeper.move(1), ())
        self.assertEqual(disk.taken(), [BOX.life(2, 1), "sync", (0, BOX.mark(2, 1)), "sync"])

    def test_1012_kept_files(self):
        keeper = BOX.keeper(BOX.disk(), 0, 1, 2, 3)
        # The new piece 0 is of the new file, too, but its octets stand in pieces of the old one.
        self.assertEqual(made(BOX.history[0], keeper.had(), BOX.history[2]),
                         {1: (4, 5, 6, 7), 2: (8, 9, 10, 11), 3: (12, 1, 2)})
        self.assertEqual(keeper.move(2), (1, 2, 3))
        self.holds(keeper, 2, 2, 1, 2, 3)

    def test_1012_what_is_held_and_not_had_is_not_taken_along(self):
        keeper = BOX.keeper(BOX.disk(), 0)
        keeper.store().put(2, BOX.pieces[0][2], BOX.proofs[0][2])
        self.assertEqual(keeper.move(1), (2,))

    def test_1012_there_and_back(self):
        disk = BOX.disk()
        keeper = BOX.keeper(disk, 0, 1, 2, 3)
        self.assertEqual(keeper.move(1), (0, 2))
        disk.taken()
        # The half still has what it had of this version, and it is not written again.
        self.assertEqual(keeper.move(0), (0, 1, 2, 3))
        self.assertEqual(disk.taken(), [BOX.life(3, 2), "sync", (32, BOX.mark(3, 0)), "sync"])
        self.holds(keeper, 0, 3, 0, 1, 2, 3)
        self.assertEqual(disk.octets()[:64], BOX.mark(2, 1) + BOX.mark(3, 0))
        for serial, version in ((4, 2), (5, 1), (6, 0), (7, 1)):
            keeper.move(version)
            self.assertEqual((keeper.version(), keeper.serial()), (version, serial))
            found = Keeper(disk, BOX.size, BOX.history)
            self.assertEqual((found.version(), found.serial(), found.had()), (version, serial, keeper.had()))
            keeper = found

    def test_1012_a_half_with_other_pieces(self):
        """What stands in the half is of another version; just what fits is taken."""
        versions = files(a=A), files(a=A + B), files(a=A + C)
        box = box_of(*versions)
        disk = box.disk()
        keeper = box.keeper(disk, 0)
        self.assertEqual(keeper.move(1), (0,))
        box.put(keeper, 1)
        self.assertEqual(keeper.move(0), (0,))
        self.assertEqual(keeper.move(2), (0,))
        self.holds(keeper, 2, 4, 0, box=box)
        self.assertEqual(keeper.move(1), (0,))
        self.holds(keeper, 1, 5, 0, box=box)

    def test_1012_lives_in_a_half_go_on(self):
        keeper = BOX.keeper(BOX.disk())
        lives = []
        for version in (1, 2, 0, 1, 2, 0):
            keeper.move(version)
            lives.append(keeper.store().life())
        self.assertEqual(lives, [1, 2, 2, 3, 3, 4])

    def test_1012_versions_that_cannot_be(self):
        disk = BOX.disk()
        keeper = BOX.keeper(disk, 0, 2, version=1)
        before, store = disk.octets(), keeper.store()
        disk.taken()
        for value in (*ANY_VALUES, 1, 3, -1, -2, 10 ** 30, True, False, None, 1.0, 2.0, "2", (2,), [2]):
            if value in (0, 2) and isinstance(value, int) and not isinstance(value, bool):
                continue
            with self.subTest(value), Unchanged(self, value):
                self.assertEqual(told(keeper.move, value), (BadKeeper, "version"))
        self.assertEqual((disk.octets(), disk.taken(), disk.pending()), (before, [], 0))
        self.assertIs(keeper.store(), store)
        self.holds(keeper, 1, 2, 0, 2)

    def test_1012_a_history_of_one_version(self):
        box = box_of(VERSIONS[0])
        keeper = box.keeper(box.disk(), 1)
        for value in (0, 1, -1, True, None):
            self.assertEqual(told(keeper.move, value), (BadKeeper, "version"))
        self.holds(keeper, 0, 1, 1, box=box)

    def test_1012_with_sha(self):
        box = box_of(*VERSIONS, kind=SHA)
        disk = box.disk()
        keeper = box.keeper(disk, 0, 1, 2, 3)
        self.assertEqual(keeper.move(2), (1, 2, 3))
        box.put(keeper, 0)
        self.assertEqual(keeper.move(1), ())
        self.holds(Keeper(disk, box.size, box.history), 1, 3, box=box)

    def test_1014_a_longer_history_on_the_same_disk(self):
        """A disk goes on with a history that has more entries."""
        disk = BOX.disk()
        keeper = Keeper(disk, BOX.size, BOX.history[:2])
        BOX.put(keeper, 0, 1, 2, 3)
        keeper.move(1)
        longer = Keeper(disk, BOX.size, BOX.history)
        self.holds(longer, 1, 2, 0, 2)
        self.assertEqual(longer.move(2), ())
        self.holds(Keeper(disk, BOX.size, BOX.history), 2, 3)


class Spreading(KeeperCase):
    VERSION = files(a=A + B + A + C + B + A + (1, 2), b=(3, 4) + A[:2])
    SPREAD = box_of(VERSION)

    def keeper(self, *indexes):
        disk = self.SPREAD.disk()
        keeper = self.SPREAD.keeper(disk, *indexes)
        disk.taken()
        return keeper, disk

    def test_1013_equal_pieces(self):
        # The pieces are A B A C B A A and the first half of A.
        self.assertEqual(self.SPREAD.pieces[0], (A, B, A, C, B, A, A, A[:2]))
        for there, due in (((0,), (2, 5, 6)), ((5,), (0, 2, 6)), ((1,), (4,)), ((4, 2), (0, 1, 5, 6)), ((3,), ()),
                           ((7,), ()), ((0, 2, 5), (6,)), ((0, 1, 3), (2, 4, 5, 6)), ((), ()), (range(8), ())):
            keeper, disk = self.keeper(*there)
            self.assertEqual(keeper.spread(), due)
            self.holds(keeper, 0, 1, *sorted([*there, *due]), box=self.SPREAD)
            puts = [operation for index in due for operation in self.SPREAD.slot(1, 0, index)]
            self.assertEqual(disk.taken(), puts + ["sync"] * (len(due) > 0))
            self.assertEqual(keeper.spread(), ())
            self.assertEqual(disk.taken(), [])
            self.holds(Keeper(disk, self.SPREAD.size, self.SPREAD.history), 0, 1, *sorted([*there, *due]),
                       box=self.SPREAD)

    def test_1013_what_is_held_is_had_since_then(self):
        keeper, disk = self.keeper(0)
        keeper.store().put(3, C, self.SPREAD.proofs[0][3])
        self.assertEqual(keeper.spread(), (2, 3, 5, 6))
        self.assertEqual(disk.pending(), 0)

    def test_1013_what_is_held_and_not_had_is_no_source(self):
        keeper, _ = self.keeper(3)
        keeper.store().put(1, B, self.SPREAD.proofs[0][1])
        self.assertEqual(keeper.spread(), (1,))
        self.assertEqual(keeper.spread(), (4,))

    def test_1013_the_length_has_to_be_the_same(self):
        """The digest of the last piece is that of a longer one, with a 0 ahead that changes no sum."""
        version = files(a=(0, 5, 6, 7, 8))
        (entry,) = history(version, kind=("sum", 1))
        hasher = Hasher(("sum", 1))
        due = hasher.digest((0, 0, 5, 6, 7))
        last = next((octet,) for octet in range(256) if hasher.digest((0, octet)) == due)
        version = files(a=(0, 5, 6, 7, *last))
        box = box_of(version, kind=("sum", 1))
        self.assertEqual(box.history[0][4][0], box.history[0][4][1])
        keeper = box.keeper(box.disk(), 0)
        self.assertEqual(keeper.spread(), ())
        self.assertEqual(entry[2][3], box.history[0][2][3])

    def test_1013_the_least_one_of_those_that_collide(self):
        """Two pieces with one leaf are equal for it, and the octets of the least one that is there are put."""
        first = (1, 100, 3, 4)
        second = collision(first)
        box = box_of(files(a=first + second + first), kind=("sum", 1))
        for there, due in (((0,), first), ((1,), second), ((0, 1), first), ((1, 2), second)):
            keeper = box.keeper(box.disk(), *there)
            rest = tuple(index for index in range(3) if index not in there)
            self.assertEqual(keeper.spread(), rest)
            for index in rest:
                self.assertEqual(keeper.had()[index], due)

    def test_1013_leaves_are_those_of_the_octets(self):
        """A forged piece that is had counts with the leaf of its own octets, and not with that of its place."""
        kind = ("sum", 1)
        version = files(a=(7, 7, 7, 7) + (1, 2, 3, 4) + (7, 7, 7, 7) + (9, 9))
        box = box_of(version, kind=kind)
        hasher, (entry,) = Hasher(kind), box.history
        proof = box.proofs[0][0]
        # Other octets with another leaf, and digests of a proof, that fold to the root all the same.
        found = None
        for place in range(256):
            forged = (7, 7, 7, place)
            if hasher.digest((0,) + forged) == entry[4][0]:
                continue
            for digest in range(256):
                below = hasher.digest((1,) + hasher.digest((0,) + forged) + (digest,))
                if hasher.digest((1,) + below + proof[1]) == entry[2][4]:
                    found = forged, ((digest,), proof[1])
        keeper = box.keeper(box.disk())
        self.assertTrue(keeper.store().put(0, *found))
        keeper.store().sync()
        self.assertEqual(keeper.spread(), ())
        self.assertEqual(keeper.had(), {0: found[0]})

    def test_1013_behind_a_move(self):
        versions = files(a=A), files(a=B + A + A)
        box = box_of(*versions)
        disk = box.disk()
        keeper = box.keeper(disk, 0)
        self.assertEqual(keeper.move(1), (1, 2))
        box.put(keeper, 0)
        self.assertEqual(keeper.spread(), ())
        keeper = box.keeper(box.disk(), version=1)
        box.put(keeper, 2)
        self.assertEqual(keeper.spread(), (1,))
        self.holds(keeper, 1, 2, 1, 2, box=box)

    def test_the_proofs_are_those_of_the_leaves(self):
        keeper, _ = self.keeper(0)
        keeper.spread()
        ways = proofs_of(Hasher(("sum", 2)), self.SPREAD.history[0][4])
        for index in keeper.store().had():
            self.assertEqual(keeper.store().proof(index), ways[index])
        self.assertEqual(self.SPREAD.pieces[0], cut(self.SPREAD.history[0][2], tuple(o for _, o in self.VERSION)))


if __name__ == "__main__":
    unittest.main()

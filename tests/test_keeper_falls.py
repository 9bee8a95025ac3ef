"""Points 1014 and 1015, and point 2, promise 7: what holds of keepers, whatever falls come."""

import random
import unittest

from swarmwhole.disk import Disk
from swarmwhole.errors import DiskFell
from swarmwhole.keeper import Keeper, keeper_size
from swarmwhole.plans import fetched, made, plan
from swarmwhole.swarm import Swarm
from tests.keepers import Box, Brink, falls
from tests.samples import path
from tests.versions import files, history

A, B, C, D = (1, 2, 3, 4), (5, 6, 7, 8), (9, 10, 11, 12), (13, 14, 15, 16)
VERSIONS = files(a=A + B + (1, 2)), files(a=C + A), files(b=(9,), a=A + B + (1, 2))
BOX = Box(history(*VERSIONS), *VERSIONS)


def opened(disk):
    return Keeper(disk, BOX.size, BOX.history)


class Falls(unittest.TestCase):
    def behind(self, disk, *states):
        """A keeper that is opened on the disk holds one of these versions with just its pieces, or more of them.

        A state is the version, the least serial, and the octets that must be there by their index. Returns which.
        """
        keeper = opened(disk)
        for place, (version, serial, pieces) in enumerate(states):
            if (keeper.version(), keeper.serial()) == (version, serial):
                self.assertLessEqual(pieces.items(), keeper.had().items())
                for index, octets in keeper.had().items():
                    self.assertEqual(octets, BOX.pieces[version][index])
                return place, keeper
        raise AssertionError((keeper.version(), keeper.serial()))

    def goes_on(self, keeper):
        """Behind a fall everything goes on as ever."""
        number, serial, had = keeper.version(), keeper.serial(), keeper.had()
        due = made(BOX.history[number], had, BOX.history[(number + 1) % 3])
        self.assertLessEqual(set(due), set(keeper.move((number + 1) % 3)))
        self.assertEqual((keeper.version(), keeper.serial()), ((number + 1) % 3, serial + 1))

    def test_1014_in_the_first_opening(self):
        count = 0
        for disk in falls(lambda disk, _: opened(disk), lambda: (BOX.disk(), None), 32):
            self.goes_on(self.behind(disk, (0, 1, {}))[1])
            count += 1
        self.assertGreater(count, 60)

    def test_1014_in_a_later_opening(self):
        def prepared():
            disk = BOX.disk()
            BOX.keeper(disk, 0, 2).move(2)
            return disk, None

        due = opened(prepared()[0]).had()
        self.assertEqual(sorted(due), [])
        disk = BOX.disk()
        BOX.keeper(disk, 0, 1, 2)
        for fallen in falls(lambda disk, _: opened(disk), lambda: (self.copy(disk), None), 16):
            self.goes_on(self.behind(fallen, (0, 1, dict(enumerate(BOX.pieces[0]))))[1])

    def copy(self, disk):
        """A disk with the same durable octets."""
        found = BOX.disk()
        found.write(0, disk.octets())
        found.sync()
        return found

    def moving(self, *indexes, ahead=(), to):
        """What prepares a disk with a keeper that has pieces, behind some moves; and the states around a move."""
        def prepared():
            disk = BOX.disk()
            keeper = opened(disk)
            for number in ahead:
                keeper.move(number)
            BOX.put(keeper, *indexes)
            return disk, keeper

        _, keeper = prepared()
        old, serial, had = keeper.version(), keeper.serial(), keeper.had()
        pieces = made(BOX.history[old], had, BOX.history[to])
        return prepared, (old, serial, had), (to, serial + 1, pieces)

    def test_1014_in_a_move(self):
        for indexes, ahead, to in (((0, 1, 2), (), 1), ((0, 1, 2), (), 2), ((1,), (), 1), ((0, 1), (1,), 0),
                                   ((0, 1, 2), (2,), 0), ((0, 1, 2), (1, 0), 2)):
            prepared, old, new = self.moving(*indexes, ahead=ahead, to=to)
            seen = [0, 0]
            for disk in falls(lambda _, keeper: keeper.move(to), prepared, 32):
                place, keeper = self.behind(disk, old, new)
                seen[place] += 1
                self.goes_on(keeper)
            # The new one is only there if all of its mark was kept.
            self.assertGreater(seen[0], 100)
            self.assertGreater(seen[1], 0)

    def test_1014_when_a_move_has_returned(self):
        for indexes, to in (((0, 1, 2), 1), ((0, 1, 2), 2), ((), 1)):
            for kept in ((), (0,), (32,), (5, 5)):
                prepared, _, new = self.moving(*indexes, to=to)
                disk, keeper = prepared()
                had = keeper.move(to)
                disk.fall(kept)
                self.assertEqual(tuple(sorted(self.behind(disk, new)[1].had())), had)

    def test_1014_two_falls_in_the_mark(self):
        """Each number of octets kept of the mark of one move, and then of the mark of another one."""
        every = dict(enumerate(BOX.pieces[0]))
        states = [(0, 1, every)] + [(to, 2, made(BOX.history[0], every, BOX.history[to])) for to in (1, 2)]
        for first in range(33):
            for second in range(33):
                disk = BOX.disk(Brink)
                keeper = BOX.keeper(disk, 0, 1, 2)
                for to, kept in ((1, first), (2, second)):
                    disk.edge = True
                    self.assertRaises(DiskFell, keeper.move, to)
                    disk.edge = False
                    disk.fall((kept,))
                    place, keeper = self.behind(disk, *states)
                    self.assertEqual(place, to if kept == 32 else 0)
                    if place > 0:
                        break
                if second % 8 == 0:
                    self.goes_on(keeper)

    def test_1014_in_a_spread(self):
        version = files(a=A + B + A + A + (1, 2))
        box = Box(history(version), version)

        def prepared():
            disk = box.disk()
            return disk, box.keeper(disk, 0, 4)

        seen = set()
        for disk in falls(lambda _, keeper: keeper.spread(), prepared, 8):
            keeper = Keeper(disk, box.size, box.history)
            had = keeper.had()
            seen.add(tuple(had))
            self.assertEqual((keeper.version(), keeper.serial()), (0, 1))
            self.assertLessEqual({0, 4}, set(had))
            for index, octets in had.items():
                self.assertEqual(octets, box.pieces[0][index])
            keeper.spread()
            self.assertEqual(sorted(keeper.had()), [0, 2, 3, 4])
        self.assertGreater(len(seen), 2)
        disk, keeper = prepared()
        self.assertEqual(keeper.spread(), (2, 3))
        disk.fall(())
        self.assertEqual(sorted(Keeper(disk, box.size, box.history).had()), [0, 2, 3, 4])

    def test_all_that_touches_the_disk_raises(self):
        disk = BOX.disk()
        disk.arm(0)
        self.assertRaises(DiskFell, opened, disk)
        self.assertRaises(DiskFell, opened, disk)
        version = files(a=A + A), files(a=A + B)
        box = Box(history(*version), *version)
        for deed in (lambda keeper: keeper.move(1), lambda keeper: keeper.spread()):
            disk = box.disk()
            keeper = box.keeper(disk, 0)
            disk.arm(0)
            self.assertRaises(DiskFell, deed, keeper)
            self.assertRaises(DiskFell, deed, keeper)
            # What does not touch it does not raise.
            self.assertEqual((keeper.version(), keeper.serial(), keeper.had()), (0, 1, {0: A}))


def draw_version(chance):
    """A version of few pieces, many of which are those of other versions."""
    pieces = [chance.choice((A, B, C, D)) for _ in range(chance.randrange(1, 5))]
    where = chance.choice(("a", "b"))
    return ((path(where), sum(pieces, (1,) * chance.randrange(3))), (path("c"), A + (7,)))


class Always(unittest.TestCase):
    def test_1014_drawn_falls(self):
        """Keepers one behind the other on one disk, with falls wherever they come."""
        chance = random.Random(1014)
        self.fallen = self.moved = 0
        for _ in range(30):
            versions = [draw_version(chance) for _ in range(4)]
            self.play(chance, Box(history(*versions, kind=("sum", 8)), *versions), 80)
        self.assertGreater(self.fallen, 100)
        self.assertGreater(self.moved, 100)

    def play(self, chance, box, steps):
        disk, keeper = Disk(keeper_size(box.size)), None
        # The version with its pieces, and what a move may have made of it.
        held, perhaps, serial = (0, {}), None, 0
        for _ in range(steps):
            try:
                if keeper is None:
                    keeper = Keeper(disk, box.size, box.history)
                    self.assertGreaterEqual(keeper.serial(), serial)
                    self.assertIn(keeper.version(), [state[0] for state in (held, perhaps) if state])
                    due = held if keeper.version() == held[0] else perhaps
                    self.assertLessEqual(due[1].items(), keeper.had().items())
                    held, perhaps, serial = (keeper.version(), keeper.had()), None, keeper.serial()
                deed = chance.randrange(6)
                if deed == 0:
                    disk.arm(chance.randrange(12))
                elif deed == 1:
                    raise DiskFell()
                elif deed == 2:
                    keeper.spread()
                elif deed == 3:
                    box.put(keeper, chance.randrange(len(box.pieces[keeper.version()])))
                else:
                    to = chance.choice([number for number in range(4) if number != keeper.version()])
                    perhaps = to, made(box.history[keeper.version()], keeper.had(), box.history[to])
                    had = keeper.move(to)
                    self.assertEqual((keeper.version(), keeper.serial()), (to, serial + 1))
                    self.assertEqual(had, tuple(sorted(keeper.had())))
                    self.assertLessEqual(perhaps[1].items(), keeper.had().items())
                    serial, perhaps = serial + 1, None
                    self.moved += 1
                held = keeper.version(), keeper.had()
            except DiskFell:
                disk.fall(tuple(chance.choice((0, 1, 9, 16, 31, 32, 99)) for _ in range(chance.randrange(8))))
                keeper = None
                self.fallen += 1


class Swarms(unittest.TestCase):
    def test_1015_only_what_the_plans_do_not_make_is_got(self):
        chance = random.Random(1015)
        got = begun = 0
        for _ in range(12):
            versions = [draw_version(chance) for _ in range(2)]
            box = Box(history(*versions, kind=("sum", 8)), *versions)
            old, new = box.history
            makes = {0: dict(enumerate(box.pieces[1]))}
            for number in (1, 2, 5):
                had = {index: piece for index, piece in enumerate(box.pieces[0]) if chance.randrange(3) > 0}
                makes[number] = made(old, had, new)
                rows = plan(old, had, new)
                self.assertEqual(sorted(makes[number]),
                                 [index for index, row in enumerate(rows) if row[0] in ("piece", "files")])
                self.assertLessEqual(len(fetched(rows)), len(box.pieces[1]) - len(makes[number]))
            honest = tuple((number, tuple(sorted(pieces))) for number, pieces in sorted(makes.items()))
            swarm = Swarm(new[2], box.pieces[1], (honest, (), ((0, 1), (1, 2), (1, 5), (2, 5))))
            swarm.quiet(120)
            for number in makes:
                self.assertIs(swarm.store(number).complete(), True)
            begun += sum(len(pieces) for pieces in makes.values())
            for _, peer, kind, *items in swarm.log.rows():
                if kind == "got" and items[1][0] == "piece":
                    self.assertNotIn(items[1][1], makes[peer])
                    got += 1
        self.assertGreater(min(got, begun), 20)


if __name__ == "__main__":
    unittest.main()

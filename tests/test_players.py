"""Points 1103 to 1105, and the heading swarmwhole/players.py of the interface."""

import random
import unittest

from swarmwhole.disk import Disk
from swarmwhole.errors import DiskFell
from swarmwhole.judges import collisions
from swarmwhole.players import PLAYER_SIZE, Player
from swarmwhole.playing import Plan
from tests.drawn import collision
from tests.helpers import Unchanged
from tests.keepers import Spy
from tests.samples import Sample

# Four files of 6, 0, 7 and 9 octets: the pieces of 4 octets are 6.
SAMPLE = Sample(6, 0, 7, 9)
STREAM = tuple(octet for piece in SAMPLE.pieces for octet in piece)
FILES = (STREAM[:6], (), STREAM[6:13], STREAM[13:])
ALL = (0, 1, 2, 3, 4, 5)


def number(value):
    """What stands in a place of the disk for a number."""
    return tuple(value.to_bytes(8, "big")) * 2


def plan_of(*files, window=5, sample=SAMPLE):
    return Plan(sample.description, files, window)


def disk_of(*places, made=Spy):
    """A disk with numbers, or 16 octets, in its places."""
    disk = made(PLAYER_SIZE)
    for place, held in enumerate(places):
        disk.write(16 * place, held if isinstance(held, tuple) else number(held))
    disk.sync()
    if made is Spy:
        disk.taken()
    return disk


class PlayerCase(unittest.TestCase):
    def play(self, player, store, rate, due):
        had = store.had()
        self.assertEqual(player.play(store, rate), due)
        self.assertEqual(store.had(), had)


class Places(PlayerCase):
    def test_1103_the_size(self):
        self.assertEqual(PLAYER_SIZE, 32)

    def opened(self, disk, place, *files):
        """A new player on a disk, which it only reads, and its plan."""
        plan = plan_of(*(files or (3, 2)))
        plan.move(1)
        before = disk.octets()
        player = Player(plan, disk)
        self.assertEqual((player.place(), plan.place()), (place, place))
        self.assertEqual((disk.taken(), disk.octets(), disk.pending()), ([], before, 0))
        return player

    def test_1103_a_disk_of_zeros(self):
        self.opened(Spy(32), 0)

    def test_1103_the_greatest_readable_number(self):
        torn = number(9)[:15] + (8,)
        for places, due in (((3,), 3), ((0, 3), 3), ((3, 5), 5), ((5, 3), 5), ((4, 4), 4), ((torn, 3), 3),
                            ((3, torn), 3), ((torn, torn), 0), ((1, 0), 1), ((16, 15), 16),
                            ((number(9)[:8] + number(3)[8:], 2), 2)):
            with self.subTest(places):
                self.opened(disk_of(*places), due)

    def test_1103_a_number_that_is_greater_than_the_total(self):
        self.opened(disk_of(16, 0), 16)
        self.opened(disk_of(17, 0), 0)
        self.opened(disk_of(17, 3), 3)
        self.opened(disk_of(3, 2 ** 64 - 1), 3)
        self.opened(disk_of(17, 18), 0)
        # With another plan it may be none.
        self.opened(disk_of(16, 7), 7, 3)
        self.opened(disk_of(16, 7), 0, 0)
        self.opened(disk_of(1, 2), 0, 1)

    def test_1104_the_place_that_is_written(self):
        """Place 1 if place 0 has the greatest readable number, otherwise place 0."""
        torn = number(9)[:15] + (8,)
        store = SAMPLE.store(*ALL)
        for places, due in (((), 0), ((3,), 1), ((0, 3), 0), ((3, 5), 0), ((5, 3), 1), ((4, 4), 1), ((torn, 3), 0),
                            ((1,), 1), ((1, 1), 1), ((0, 1), 0), ((2, 1), 1), ((3, torn), 1), ((torn, torn), 0),
                            ((17, 0), 0), ((17, 3), 0), ((3, 17), 1), ((0, 17), 0)):
            with self.subTest(places):
                disk = disk_of(*places)
                player = Player(plan_of(3, 2), disk)
                for place in range(player.place() + 1, player.place() + 5):
                    self.assertEqual(player.play(store, 1)[:2], ("show", place - 1))
                    self.assertEqual(disk.taken(), [(16 * due, number(place)), "sync"])
                    self.assertEqual(disk.pending(), 0)
                    due = 1 - due

    def test_1103_players_one_behind_the_other(self):
        disk, store = Spy(32), SAMPLE.store(*ALL)
        for place in range(0, 16, 2):
            plan = plan_of(3, 2)
            player = Player(plan, disk)
            self.assertEqual((player.place(), plan.place()), (place, place))
            self.assertEqual(player.play(store, 2)[:2], ("show", place))
            self.assertEqual((player.place(), plan.place()), (place + 2, place + 2))
        self.assertEqual(Player(plan_of(3, 2), disk).play(store, 5), ("end",))

    def test_1103_a_disk_that_has_fallen(self):
        disk, plan = disk_of(3, 5), plan_of(3)
        plan.move(2)
        disk.arm(0)
        self.assertRaises(DiskFell, disk.sync)
        self.assertRaises(DiskFell, Player, plan, disk)
        self.assertEqual(plan.place(), 2)
        disk.fall(())
        self.assertEqual(Player(plan, disk).place(), 5)


class Plays(PlayerCase):
    def test_1104_each_rate(self):
        store = SAMPLE.store(*ALL)
        for files in ((3, 2), (0,), (2, 1, 0, 3), (1, 3)):
            due = sum((FILES[file] for file in files), ())
            for rate in (1, 2, 3, 4, 5, len(due) - 1, len(due), len(due) + 1, 10 ** 9):
                player, shown = Player(plan_of(*files), Disk(32)), ()
                while len(shown) < len(due):
                    octets = due[len(shown):len(shown) + rate]
                    self.play(player, store, rate, ("show", len(shown), octets))
                    shown += octets
                    self.assertEqual(player.place(), len(shown))
                for again in (1, rate):
                    self.play(player, store, again, ("end",))
                self.assertEqual(player.place(), len(due))

    def test_1104_a_plan_without_octets(self):
        for disk in (Spy(32), disk_of(3, 5)):
            player = Player(plan_of(1), disk)
            for store in (SAMPLE.store(), SAMPLE.store(*ALL)):
                self.play(player, store, 3, ("end",))
            self.assertEqual((player.place(), disk.taken()), (0, []))

    def test_1104_a_stall_at_the_first_piece(self):
        disk, plan = Spy(32), plan_of(3, 2)
        player = Player(plan, disk)
        for had in ((), (0, 1, 2), (4, 5), (0, 1, 2, 4, 5)):
            for rate in (1, 100):
                self.play(player, SAMPLE.store(*had), rate, ("stall", 3))
        self.assertEqual((player.place(), plan.place(), disk.taken()), (0, 0, []))

    def test_1104_a_stall_at_a_later_piece(self):
        # The pieces of the stream: 3 3 3 4 4 4 4 5 5 | 1 1 2 2 2 2 3.
        due = FILES[3] + FILES[2]
        for had, place, index in (((3,), 3, 4), ((3, 4), 7, 5), ((3, 4, 5), 9, 1), ((1, 3, 4, 5), 11, 2),
                                  ((0, 2, 3, 4, 5), 9, 1)):
            store = SAMPLE.store(*had)
            for rate in (1, 2, 100):
                plan = plan_of(3, 2)
                player, shown = Player(plan, Disk(32)), ()
                while len(shown) < place:
                    word, where, octets = player.play(store, rate)
                    self.assertEqual((word, where, len(octets)), ("show", len(shown), min(rate, place - len(shown))))
                    shown += octets
                self.assertEqual(shown, due[:place])
                for _ in range(2):
                    self.play(player, store, rate, ("stall", index))
                self.assertEqual((player.place(), plan.place()), (place, place))

    def test_1104_a_store_that_gets_pieces_between_the_plays(self):
        store = SAMPLE.store()
        player = Player(plan_of(3, 2), Disk(32))
        shown = ()
        for index in (5, 3, 0, 4, 2, 1):
            SAMPLE.put(store, index)
            # What is held and not had is not played.
            before = store.had()
            while (found := player.play(store, 2))[0] == "show":
                self.assertEqual(found[1], len(shown))
                shown += found[2]
            self.assertEqual(store.had(), before)
            store.sync()
        self.assertEqual(len(shown), 9)
        self.play(player, store, 100, ("show", 9, FILES[2]))
        self.play(player, store, 100, ("end",))

    def test_1104_what_is_held_and_not_had_is_a_stall(self):
        store = SAMPLE.store()
        SAMPLE.put(store, 0)
        player = Player(plan_of(0), Disk(32))
        self.play(player, store, 3, ("stall", 0))
        store.sync()
        self.play(player, store, 9, ("show", 0, STREAM[:4]))

    def test_1104_other_stores_between_the_plays(self):
        disk = SAMPLE.disk()
        player = Player(plan_of(0), Disk(32))
        self.play(player, SAMPLE.store(0, disk=disk), 3, ("show", 0, STREAM[:3]))
        self.play(player, SAMPLE.store(disk=disk), 3, ("show", 3, STREAM[3:4]))
        self.play(player, SAMPLE.store(), 3, ("stall", 1))
        self.play(player, SAMPLE.store(1, disk=disk), 3, ("show", 4, STREAM[4:6]))

    def test_3_what_is_handed_in_stays_as_it_is(self):
        disk = Spy(32)
        with Unchanged(self, SAMPLE.description):
            player = Player(plan_of(3, 2), disk)
            player.play(SAMPLE.store(*ALL), 5)


class Falls(PlayerCase):
    def test_1104_a_fall_in_the_middle_of_a_play(self):
        """At each of its operations, with each number of octets kept."""
        store, due = SAMPLE.store(*ALL), FILES[3] + FILES[2]
        for places in ((), (2,), (0, 2), (2, 1), (1, 2), (2, 2), (number(9)[:15] + (8,), 2)):
            for count in (0, 1):
                for kept in range(17):
                    for rate in (1, 3, 100):
                        disk, plan = disk_of(*places), plan_of(3, 2)
                        player = Player(plan, disk)
                        place = player.place()
                        disk.arm(count)
                        self.assertRaises(DiskFell, player.play, store, rate)
                        self.assertEqual(plan.place(), place)
                        self.assertEqual(disk.pending(), count)
                        disk.fall((kept,))
                        behind = min(place + rate, 16)
                        self.goes_on(Player(plan, disk), store, due,
                                     behind if count == 1 and kept == 16 else place)

    def goes_on(self, player, store, due, place):
        """A new player goes on at a place, and shows the rest."""
        self.assertEqual(player.place(), place)
        rest = due[place:]
        self.play(player, store, 100, ("show", place, rest) if rest else ("end",))
        self.play(player, store, 1, ("end",))

    def test_1104_a_number_over_several_octets(self):
        """With great places a torn number is neither the old nor the new one."""
        sample = Sample(700, size=256)
        store = sample.store(0, 1, 2)
        for start, rate in ((254, 3), (255, 1), (256, 300), (100, 500), (511, 1)):
            for ahead in ((start,), (0, start), (start, start - 1), (255, start) if start > 255 else (1, start)):
                for kept in range(17):
                    disk = disk_of(*ahead)
                    player = Player(plan_of(0, sample=sample), disk)
                    place = player.place()
                    disk.arm(1)
                    self.assertRaises(DiskFell, player.play, store, rate)
                    disk.fall((kept,))
                    found = Player(plan_of(0, sample=sample), disk).place()
                    self.assertEqual(found, place + rate if kept == 16 or found > place else place)

    def test_1104_without_an_operation_nothing_falls(self):
        disk = disk_of(3)
        player = Player(plan_of(0), disk)
        disk.arm(0)
        self.play(player, SAMPLE.store(), 1, ("stall", 0))
        self.assertRaises(DiskFell, player.play, SAMPLE.store(*ALL), 1)

    def test_1105_drawn_falls(self):
        chance = random.Random(1105)
        falls = ends = 0
        for _ in range(250):
            files = tuple(chance.sample(range(4), chance.randrange(1, 5)))
            due = sum((FILES[file] for file in files), ())
            store, disk, plan = SAMPLE.store(), disk_of(), plan_of(*files)
            player, shown, fell = Player(plan, disk), {}, False
            for _ in range(60):
                deed = chance.randrange(8)
                try:
                    if deed == 0:
                        disk.arm(chance.randrange(4))
                    elif deed == 1:
                        raise DiskFell()
                    elif deed == 2:
                        SAMPLE.put(store, chance.choice(ALL))
                        store.sync()
                    else:
                        word, *rest = player.play(store, chance.choice((1, 1, 2, 5, 50)))
                        if word == "show":
                            self.show(shown, due, *rest)
                        ends += word == "end"
                except DiskFell:
                    disk.fall((chance.choice((0, 3, 7, 8, 15, 16)),))
                    player, fell, falls = Player(plan, disk), True, falls + 1
                self.assertGreaterEqual(player.place(), max(shown, default=-1) + 1)
            if not fell:
                self.assertEqual(list(shown), list(range(len(shown))))
        self.assertGreater(min(falls, ends), 200)

    def show(self, shown, due, place, octets):
        """What is shown is described, comes in ascending order of its places, and none of it twice."""
        self.assertGreater(len(octets), 0)
        self.assertEqual(octets, due[place:place + len(octets)])
        self.assertGreater(place, max(shown, default=-1))
        for octet, held in enumerate(octets):
            shown[place + octet] = held

    def test_1105_octets_that_are_not_the_described_ones(self):
        sample = Sample(6, 0, 7, 9, kind=("sum", 1))
        forged = collision(sample.pieces[1])
        store = sample.store(0, 2)
        store.put(1, forged, sample.proofs[1])
        store.sync()
        player = Player(plan_of(0, sample=sample), Disk(32))
        word, place, octets = player.play(store, 100)
        self.assertEqual((word, place, octets), ("show", 0, sample.pieces[0] + forged[:2]))
        self.assertNotEqual(octets, FILES[0])
        rows = [(0, 1, "had", index, store.piece(index), store.proof(index)) for index in store.had()]
        (found,) = collisions(sample.description, sample.pieces, rows)
        self.assertEqual(found, ((0,) + sample.pieces[1], (0,) + forged))


if __name__ == "__main__":
    unittest.main()

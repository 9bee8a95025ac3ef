"""Points 707 and 708, and promises 1 to 6 of point 2: what holds of drawn swarms."""

import random
import unittest

from swarmwhole.descriptions import identity
from swarmwhole.judges import collisions, forgers, judge, lacking, stuck, turn_fault
from swarmwhole.limits import TURN
from swarmwhole.store import fits
from swarmwhole.swarm import Swarm
from tests.drawn import Follow, Liar, connected, draw_events, draw_world
from tests.samples import SHA, Sample


class Holds(unittest.TestCase):
    """Plays a swarm, and looks at its stores and its log."""

    def begin(self, seed, sample, forgers=2):
        self.chance = random.Random(seed)
        self.sample = sample
        self.world = draw_world(self.chance, len(sample.pieces), forgers)
        self.numbers = tuple(number for number, _ in self.world[0])
        self.count = len(self.numbers) + forgers
        self.swarm = Swarm(sample.description, sample.pieces, self.world)
        self.liar = Liar(self.chance, sample)
        self.ever = {number: {} for number in self.numbers}

    def play(self, ticks, arms=True):
        for _ in range(ticks):
            self.swarm.tick(draw_events(self.chance, self.world, self.liar, arms))
            self.look()

    def look(self):
        """707, 1 and 2: nothing is lost, and everything fits."""
        for number in self.numbers:
            store = self.swarm.store(number)
            if store is None:
                continue
            for index, octets in self.ever[number].items():
                self.assertIn(index, store.had())
                self.assertEqual(store.piece(index), octets)
            for index in store.had():
                if index not in self.ever[number]:
                    given = index, store.piece(index), store.proof(index)
                    self.assertIs(fits(self.sample.hasher, self.sample.description, *given), True)
                    self.ever[number][index] = store.piece(index)

    def judged(self):
        """What the judges say of the log; returns the pairs of colliding texts."""
        sample, rows = self.sample, self.swarm.log.rows()
        self.assertEqual(judge(sample.description, sample.pieces, self.numbers, rows, TURN * self.count), [])
        self.assertLessEqual(set(forgers(rows)), set(self.world[1]))
        for number in self.numbers:
            many = len([pair for pair in self.world[2] if number in pair])
            self.assertIsNone(turn_fault((number,), rows, TURN * many))
        found = collisions(sample.description, sample.pieces, rows)
        for one, other in found:
            self.assertNotEqual(one, other)
            self.assertEqual(sample.hasher.digest(one), sample.hasher.digest(other))
        forged = [1 for number in self.numbers for index, octets in self.ever[number].items()
                  if octets != sample.pieces[index]]
        self.assertIs(len(forged) > 0, len(found) > 0)
        self.in_the_log()
        return found

    def in_the_log(self):
        """704 and 805: what the stores have stands in had rows, with the same octets."""
        told = {number: {} for number in self.numbers}
        for _, peer, kind, *items in self.swarm.log.rows():
            if kind == "had":
                self.assertEqual(told[peer].setdefault(items[0], items[1]), items[1])
        for number in self.numbers:
            self.assertLessEqual(self.ever[number].items(), told[number].items())

    def settle(self, lying):
        """708: the ticks become quiet, and at last every honest peer has all pieces."""
        description = self.sample.description
        # A disk that is armed could fall in a quiet tick; a fall disarms it.
        self.swarm.tick(tuple(("fall", number, ()) for number in self.numbers))
        since, window = self.swarm.now + 10, TURN * self.count + 10
        follow = Follow(self.swarm, self.world)
        most = 10 + window * (len(self.numbers) * len(self.sample.pieces) + 2)
        for _ in range(most):
            between = [("forge", forger, other, lie()) for forger in self.world[1] for other in self.numbers
                       for lie in self.lies(lying)]
            self.swarm.tick(follow.quiet_events(between))
            self.look()
            rows = self.swarm.log.rows()
            if lacking(description, self.numbers, rows, self.swarm.now) == 0:
                break
        self.assertEqual(lacking(description, self.numbers, rows, self.swarm.now), 0)
        self.assertIsNone(stuck(description, self.numbers, rows, since, window))
        for number in self.numbers:
            self.assertIs(self.swarm.store(number).complete(), True)

    def lies(self, lying):
        if not lying or self.chance.randrange(3) > 0:
            return ()
        return (self.chance.choice((self.liar.greeting, self.liar.octets)),)

    def test_707_and_708_with_sums_of_one_octet(self):
        found = told = falls = 0
        for seed in range(25):
            self.begin(seed, Sample(*self.sizes(seed), kind=("sum", 1)), seed % 4)
            self.play(60)
            self.settle(seed % 2 == 1)
            found += len(self.judged())
            rows = self.swarm.log.rows()
            told += len([row for row in rows if row[2] == "told"])
            falls += len([row for row in rows if row[2] == "fall"])
        self.assertGreater(found, 10)
        self.assertGreater(told, 20)
        self.assertGreater(falls, 50)

    def sizes(self, seed):
        return ((40,), (9, 0, 10), (33,), (3,), (64,))[seed % 5]

    def test_707_and_708_with_longer_sums(self):
        for seed in range(10):
            self.begin(100 + seed, Sample(*self.sizes(seed), kind=("sum", 8)), seed % 3)
            self.play(60)
            self.settle(seed % 2 == 0)
            self.judged()

    def test_707_and_708_with_sha_nothing_collides(self):
        self.begin(7, Sample(100, kind=SHA, size=16))
        self.play(30)
        self.settle(True)
        self.assertEqual(self.judged(), [])

    def test_708_from_the_first_tick_on(self):
        for seed in range(10):
            self.begin(200 + seed, Sample(48), 0)
            self.settle(False)
            self.assertEqual(self.judged(), [])

    def test_708_a_row_of_peers(self):
        """Each piece goes through all of them, one behind the other."""
        sample = Sample(20)
        honest = tuple((number, (0, 1, 2, 3, 4) if number == 0 else ()) for number in range(6))
        swarm = Swarm(sample.description, sample.pieces,
                      (honest, (), tuple((number, number + 1) for number in range(5))))
        swarm.quiet(150)
        rows = swarm.log.rows()
        self.assertEqual([swarm.had(number) for number in range(6)], [(0, 1, 2, 3, 4)] * 6)
        self.assertIsNone(stuck(sample.description, tuple(range(6)), rows, 10, TURN * 6 + 10))

    def test_708_forgers_that_claim_all_and_answer_nothing(self):
        sample = Sample(40)
        honest = ((0, tuple(range(10))), (5, ()), (9, ()))
        world = honest, (2, 3, 7), ((0, 5), (2, 5), (3, 5), (5, 7), (5, 9), (7, 9))
        swarm = Swarm(sample.description, sample.pieces, world)
        follow, liar = Follow(swarm, world), Liar(random.Random(1), sample)
        greeting = liar.frames(("hello", 1, identity(sample.description)), ("field", (True,) * 10), ("wish",),
                               ("unchoke",))
        for tick in range(250):
            lies = [("forge", forger, other, greeting) for forger,
                    other in ((2, 5), (3, 5), (7, 5), (7, 9)) if tick == 1]
            swarm.tick(follow.quiet_events(lies))
        rows = swarm.log.rows()
        self.assertEqual(forgers(rows), ())
        self.assertEqual([swarm.had(number) for number in (0, 5, 9)], [tuple(range(10))] * 3)
        self.assertIsNone(stuck(sample.description, (0, 5, 9), rows, 10, TURN * 6 + 10))

    def test_the_drawn_worlds_are_connected(self):
        for seed in range(50):
            honest, _, pairs = draw_world(random.Random(seed), 5, seed % 4)
            self.assertTrue(connected([number for number, _ in honest], pairs))
        self.assertFalse(connected([1, 2, 3], ((1, 2),)))


if __name__ == "__main__":
    unittest.main()

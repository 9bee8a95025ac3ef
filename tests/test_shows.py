"""Point 1106, and point 2, promise 8: players beside peers with plans in swarms."""

import random
import unittest

from swarmwhole.descriptions import identity
from swarmwhole.disk import Disk
from swarmwhole.judges import collisions, forgers, judge
from swarmwhole.limits import TURN
from swarmwhole.players import PLAYER_SIZE, Player
from swarmwhole.playing import Plan
from swarmwhole.swarm import Swarm
from tests.drawn import Follow, Liar, draw_events, draw_world
from tests.samples import Sample

COUNTS = (9, 0, 10), (20, 12, 8), (4, 4, 4, 4), (3, 5, 7, 1, 9)


class Shows(unittest.TestCase):
    """Plays a swarm in which some peers have plans and players."""

    def begin(self, sample, world, plans):
        self.sample, self.world, self.plans = sample, world, plans
        self.numbers = [number for number, _ in world[0]]
        self.window = TURN * (len(world[0]) + len(world[1])) + 10
        self.swarm = Swarm(sample.description, sample.pieces, world, policies=plans)
        self.players = {number: Player(plan, Disk(PLAYER_SIZE)) for number, plan in plans.items()}
        self.shown = {number: () for number in plans}
        self.stalls = {number: 0 for number in plans}
        self.ended = {}
        # What each peer has at the end of each quiet tick.
        self.had = []

    def quiet(self, ticks, lies=lambda: (), rate=1):
        """Quiet ticks, in each of which each player plays once."""
        follow = Follow(self.swarm, self.world)
        for _ in range(ticks):
            self.swarm.tick(follow.quiet_events(lies()))
            self.had.append({number: set(self.swarm.had(number)) for number in self.numbers})
            for number, player in self.players.items():
                word, *rest = player.play(self.swarm.store(number), rate)
                if word == "show":
                    self.assertEqual(rest[0], len(self.shown[number]))
                    self.shown[number] += rest[1]
                self.stalls[number] += word == "stall"
                if word == "end":
                    self.ended.setdefault(number, self.swarm.now)

    def near(self, number):
        """The honest neighbours of a peer."""
        others = [one + other - number for one, other in self.world[2] if number in (one, other)]
        return [other for other in others if other in self.numbers]

    def less(self):
        """In each row of so many ticks the number of lacking wanted pieces becomes less; returns the rows."""
        rows = 0
        for number, plan in self.plans.items():
            for now, later in zip(self.had, self.had[self.window:]):
                lacking = set(plan.wanted()) - now[number]
                if any(lacking & now[other] for other in self.near(number)):
                    self.assertLess(len(lacking - later[number]), len(lacking))
                    rows += 1
        return rows

    def comes_to_its_end(self, number):
        """Behind at most so many stalls for each piece, the stream of the plan is shown."""
        wanted = len(set(self.plans[number].wanted()) - self.had[0][number])
        self.assertLessEqual(self.stalls[number], self.window * wanted + 10)
        self.assertIn(number, self.ended)
        self.assertEqual(len(self.shown[number]), self.plans[number].total())

    def test_1106_beside_one_holder(self):
        sample = Sample(9, 0, 10)
        for files, window in (((2, 0), 1), ((0, 1, 2), 3), ((2,), 1000), ((1,), 1)):
            for rate in (1, 3, 100):
                plan = Plan(sample.description, files, window)
                self.begin(sample, (((0, (0, 1, 2, 3, 4)), (1, ())), (), ((0, 1),)), {1: plan})
                self.quiet(120, rate=rate)
                self.less()
                self.comes_to_its_end(1)
                contents = [sample.pieces[place // 4][place % 4] for place in range(19)]
                due = {0: contents[:9], 1: [], 2: contents[9:]}
                self.assertEqual(list(self.shown[1]), sum((due[file] for file in files), []))

    def test_1106_pieces_come_in_the_order_of_the_stream(self):
        """A player with a great rate stalls once for each piece, and not for pieces that come later."""
        sample = Sample(8, 8, 8)
        plan = Plan(sample.description, (2, 0), 1000)
        self.begin(sample, (((0, (0, 1, 2, 3, 4, 5)), (1, ())), (), ((0, 1),)), {1: plan})
        self.quiet(60, rate=4)
        first = {}
        for tick, had in enumerate(self.had):
            for index in had[1]:
                first.setdefault(index, tick)
        self.assertEqual(sorted(first, key=first.get), [4, 5, 0, 1, 2, 3])
        self.comes_to_its_end(1)

    def test_1106_forgers_that_claim_all_and_answer_nothing(self):
        sample = Sample(20, 12)
        world = (((0, tuple(range(8))), (5, ())), (2, 3, 7), ((0, 5), (2, 5), (3, 5), (5, 7)))
        self.begin(sample, world, {5: Plan(sample.description, (1, 0), 2)})
        greeting = Liar(random.Random(1), sample).frames(
            ("hello", 1, identity(sample.description)), ("field", (True,) * 8), ("wish",), ("unchoke",))
        self.quiet(1)
        self.quiet(1, lambda: [("forge", forger, 5, greeting) for forger in world[1]])
        self.quiet(400, rate=2)
        self.assertEqual(forgers(self.swarm.log.rows()), ())
        self.assertGreater(self.less(), 10)
        self.comes_to_its_end(5)

    def draw(self, seed, kind):
        chance = random.Random(seed)
        sample = Sample(*COUNTS[seed % 4], kind=kind)
        world = draw_world(chance, len(sample.pieces), seed % 3)
        plans = {}
        for number, _ in world[0]:
            if chance.randrange(3) > 0:
                files = chance.sample(range(len(COUNTS[seed % 4])), chance.randrange(1, len(COUNTS[seed % 4]) + 1))
                plans[number] = Plan(sample.description, tuple(files), chance.choice((1, 2, 3, 1000)))
        self.begin(sample, world, plans)
        liar = Liar(chance, sample)
        for _ in range(chance.randrange(40)):
            self.swarm.tick(draw_events(chance, world, liar))
        # A disk that is armed could fall in a quiet tick; a fall disarms it.
        self.swarm.tick(tuple(("fall", number, ()) for number in self.numbers))
        return chance, liar

    def test_1106_drawn_swarms(self):
        rows = ends = found = 0
        for seed in range(40):
            chance, liar = self.draw(seed, (("sum", 8), ("sum", 1))[seed % 2])

            def lies():
                return [("forge", forger, other, liar.octets()) for forger in self.world[1] for other in self.numbers
                        if seed % 4 > 1 and chance.randrange(3) == 0]

            self.quiet(2 * self.window + 60, lies, chance.choice((1, 3, 100)))
            rows += self.less()
            for number, plan in self.plans.items():
                if any(set(plan.wanted()) <= self.had[0][other] for other in self.near(number)):
                    self.quiet(self.window * 2, rate=100)
                    self.comes_to_its_end(number)
                    ends += 1
            log = self.swarm.log.rows()
            bound = TURN * (len(self.numbers) + len(self.world[1]))
            self.assertEqual(judge(self.sample.description, self.sample.pieces, tuple(self.numbers), log, bound), [])
            found += len(self.true_octets(log))
        self.assertGreater(min(rows, ends, found), 5)

    def true_octets(self, log):
        """1105: what is shown is described, or two texts with one digest are found; returns the pairs."""
        pairs = collisions(self.sample.description, self.sample.pieces, log)
        contents = [octet for piece in self.sample.pieces for octet in piece]
        for number, plan in self.plans.items():
            due = tuple(contents[index * 4 + start] for index, start in map(plan.at, range(len(self.shown[number]))))
            if self.shown[number] != due:
                self.assertNotEqual(pairs, [])
        return pairs


if __name__ == "__main__":
    unittest.main()

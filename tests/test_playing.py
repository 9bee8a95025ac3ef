"""Points 1100 to 1102, and the heading swarmwhole/playing.py of the interface."""

import itertools
import random
import unittest

from swarmwhole.errors import BadDescription, BadPlan
from swarmwhole.playing import Plan
from swarmwhole.swarm import Swarm
from tests.helpers import ANY_VALUES, Unchanged, told
from tests.peers import Side, flags
from tests.samples import SHA, WRONG_DESCRIPTIONS, Sample, content

# Four files of 6, 0, 7 and 9 octets: the pieces of 4 octets are 6, and the last one has 2.
MANY = content(6, 0, 7, 9)[0]
# The pieces of these files, as they lie: 0 1 | | 1 2 3 | 3 4 5.
SPANS = {0: (0, 1), 1: (), 2: (1, 2, 3), 3: (3, 4, 5)}


def stream_as_told(description, files):
    """The piece of each octet of the stream of a plan, and its place in the piece."""
    lengths = [length for _, length in description[3]]
    places = [sum(lengths[:file]) + octet for file in files for octet in range(lengths[file])]
    return [(place // description[2], place % description[2]) for place in places]


def window_as_told(stream, place, window):
    row = []
    for index, _ in stream[place:]:
        if len(row) == window:
            break
        if index not in row:
            row.append(index)
    return tuple(row)


def wants_as_told(stream, claims, held):
    wanted = {index for index, _ in stream}
    lacked = [index for index, claimed in enumerate(claims) if claimed and index not in held]
    return lacked if wanted <= set(held) else [index for index in lacked if index in wanted]


def choice_as_told(stream, row, claims, held, fields, asked):
    pieces = wants_as_told(stream, claims, held)
    near = [index for index in row if index in pieces]
    free = [index for index in pieces if index not in asked]
    for index in near:
        if index in free:
            return index
    if free:
        return min(free, key=lambda index: (sum(field[index] for field in fields), index))
    return (near + pieces + [None])[0]


class Errors(unittest.TestCase):
    def bad(self, *given):
        for files, window in given:
            with self.subTest(files=files, window=window), Unchanged(self, files):
                self.assertEqual(told(Plan, MANY, files, window), (BadPlan,))

    def test_1100_a_wrong_description_comes_first(self):
        for value, reason in WRONG_DESCRIPTIONS:
            for files, window in (((0,), 5), ((), 5), ((0,), 0), (None, None)):
                with Unchanged(self, value):
                    self.assertEqual(told(Plan, value, files, window), (BadDescription, reason))

    def test_1100_files(self):
        self.bad(*[(value, 5) for value in ANY_VALUES if value != (1, 1)], ([0], 5), ((0, 0), 5), ((1, 2, 1), 5),
                 ((4,), 5), ((0, 4), 5), ((-1,), 5), ((0, -1), 5), ((True,), 5), ((0, False), 5), ((None,), 5),
                 ((0, 1.0), 5), (("0",), 5), (((0,),), 5), ((0, 1, 2, 3, 0), 5), (0, 5), (range(2), 5), ({0: 1}, 5))
        for count in (1, 2, 3, 4):
            for files in itertools.permutations(range(4), count):
                with Unchanged(self, files):
                    self.assertIsInstance(Plan(MANY, files, 5), Plan)

    def test_1100_windows(self):
        self.bad(*[((0,), window) for window in (0, 1001, -1, 10 ** 30, True, False, None, 1.0, "1", (), (1,), [1])])
        for window in (1, 2, 999, 1000):
            self.assertIsInstance(Plan(MANY, (0,), window), Plan)
        self.bad(((), 0), ((0, 0), None))


class Plans(unittest.TestCase):
    def test_1100_the_stream(self):
        plan = Plan(MANY, (3, 0), 5)
        self.assertEqual((plan.total(), plan.place()), (15, 0))
        # The last file begins in the fourth piece, behind one octet of the file ahead of it.
        self.assertEqual([plan.at(place) for place in range(15)],
                         [(3, 1), (3, 2), (3, 3), (4, 0), (4, 1), (4, 2), (4, 3), (5, 0), (5, 1),
                          (0, 0), (0, 1), (0, 2), (0, 3), (1, 0), (1, 1)])

    def test_1100_all_orders_of_files(self):
        for kind, size in ((("sum", 4), 4), (SHA, 8), (("sum", 1), 16)):
            description = content(6, 0, 7, 9, kind=kind, size=size)[0]
            for count in (1, 2, 3, 4):
                for files in itertools.permutations(range(4), count):
                    stream = stream_as_told(description, files)
                    with Unchanged(self, description, files):
                        plan = Plan(description, files, 3)
                        self.assertEqual(plan.total(), len(stream))
                        self.assertEqual([plan.at(place) for place in range(plan.total())], stream)
                        self.assertEqual(plan.wanted(), tuple(sorted({index for index, _ in stream})))
                        self.assertEqual((plan.place(), plan.ahead()), (0, window_as_told(stream, 0, 3)))
                    self.assertIsInstance(plan.wanted(), tuple)
                    self.assertIsInstance(plan.ahead(), tuple)

    def test_1100_empty_files(self):
        plan = Plan(MANY, (1,), 5)
        self.assertEqual((plan.total(), plan.place(), plan.wanted(), plan.ahead()), (0, 0, (), ()))
        self.assertIsNone(plan.move(0))
        self.assertEqual(Plan(MANY, (1, 0), 5).wanted(), Plan(MANY, (0, 1), 5).wanted())

    def test_1100_the_place(self):
        plan = Plan(MANY, (2, 3), 2)
        for place in (0, 1, 15, 16, 5, 0):
            self.assertIsNone(plan.move(place))
            self.assertEqual(plan.place(), place)
            self.assertEqual(plan.total(), 16)

    def test_1101_the_wanted_pieces(self):
        for count in (1, 2, 3, 4):
            for files in itertools.permutations(range(4), count):
                due = {index for file in files for index in SPANS[file]}
                plan = Plan(MANY, files, 1)
                for place in (0, plan.total()):
                    plan.move(place)
                    self.assertEqual(plan.wanted(), tuple(sorted(due)))

    def test_1101_the_window(self):
        plan = Plan(MANY, (3, 2, 0), 3)
        # The stream: 3 3 3 4 4 4 4 5 5 | 1 1 2 2 2 2 3 | 0 0 0 0 1 1.
        for place, due in ((0, (3, 4, 5)), (2, (3, 4, 5)), (3, (4, 5, 1)), (7, (5, 1, 2)), (8, (5, 1, 2)),
                           (9, (1, 2, 3)), (14, (2, 3, 0)), (15, (3, 0, 1)), (16, (0, 1)), (20, (1,)), (21, (1,)),
                           (22, ())):
            plan.move(place)
            self.assertEqual(plan.ahead(), due)

    def test_1101_each_place_and_window(self):
        for files in itertools.permutations(range(4), 3):
            stream = stream_as_told(MANY, files)
            for window in (1, 2, 3, 5, 6, 7, 1000):
                plan = Plan(MANY, files, window)
                for place in range(len(stream) + 1):
                    plan.move(place)
                    self.assertEqual(plan.ahead(), window_as_told(stream, place, window))
                plan.move(plan.total())
                self.assertEqual(plan.ahead(), ())

    def test_1101_a_piece_that_lies_in_two_files_is_taken_once(self):
        description = content(1, 1, 1, 1, 1, size=4)[0]
        self.assertEqual(Plan(description, (3, 0, 2, 1, 4), 9).ahead(), (0, 1))
        self.assertEqual(Plan(description, (4, 0, 2, 1, 3), 9).ahead(), (1, 0))

    def test_1101_a_long_window(self):
        description = content(4 * 1500)[0]
        plan = Plan(description, (0,), 1000)
        self.assertEqual(plan.ahead(), tuple(range(1000)))
        plan.move(4 * 700 + 3)
        self.assertEqual(plan.ahead(), tuple(range(700, 1500)))


class Wishes(unittest.TestCase):
    def wants(self, plan, claims, held, due):
        for given in (flags(claims), list(flags(claims))):
            for there in (tuple(held), list(held)):
                with Unchanged(self, given, there):
                    found = plan.wants(given, there)
                self.assertEqual(found, due)
                self.assertIsInstance(found, list)

    def choose(self, plan, claims, held, fields, asked, due):
        given = flags(claims), tuple(held), [flags(field) for field in fields], list(asked)
        with Unchanged(self, *given):
            self.assertEqual(plan.choose(*given), due)

    def test_1102_only_wanted_pieces_while_one_is_lacking(self):
        plan = Plan(MANY, (3,), 2)
        self.assertEqual(plan.wanted(), (3, 4, 5))
        self.wants(plan, "xxxxxx", (), [3, 4, 5])
        self.wants(plan, "xxxxxx", (3, 4), [5])
        self.wants(plan, "xxxx..", (0, 4), [3])
        self.wants(plan, "xxx...", (), [])
        self.wants(plan, "xxxxx.", (3, 4), [])
        self.wants(plan, "......", (), [])

    def test_1102_behind_that_all_that_is_claimed(self):
        plan = Plan(MANY, (3,), 2)
        self.wants(plan, "xxxxxx", (3, 4, 5), [0, 1, 2])
        self.wants(plan, ".xx..x", (2, 3, 4, 5), [1])
        self.wants(plan, "xxxxxx", range(6), [])
        self.wants(Plan(MANY, (1,), 2), "xx..x.", (1,), [0, 4])

    def test_1102_the_place_changes_no_wish(self):
        plan = Plan(MANY, (3, 0), 1)
        for place in (0, 8, 15):
            plan.move(place)
            self.wants(plan, "xxxxxx", (4,), [0, 1, 3, 5])

    def test_1102_the_first_one_in_the_window(self):
        plan = Plan(MANY, (3, 0), 3)
        every = ["xxxxxx"]
        self.choose(plan, "xxxxxx", (), every, [], 3)
        self.choose(plan, "xxxxxx", (3,), every, [None], 4)
        self.choose(plan, "xxx.xx", (), every, [], 4)
        self.choose(plan, "xxxxxx", (), every, [3, None, 4], 5)
        plan.move(8)
        self.choose(plan, "xxxxxx", (), every, [], 5)
        self.choose(plan, "xxxxxx", (5,), every, [], 0)
        # It comes ahead of all that fewer claim.
        self.choose(plan, "xxxxxx", (), ["xxxxxx", "...xxx", "....xx"], [], 5)

    def test_1102_then_the_one_that_the_fewest_claim(self):
        plan = Plan(MANY, (3, 0), 1)
        fields = ["xxxxxx", "x.xxxx", "....xx"]
        self.choose(plan, "xxxxxx", (), fields, [3], 1)
        self.choose(plan, "xxxxxx", (3,), fields, [], 1)
        self.choose(plan, "xxxxxx", (1, 3), fields, [None], 0)
        self.choose(plan, "xxxxxx", (0, 1), fields, [3], 4)
        self.choose(plan, "xxxxxx", (0, 1), fields, [4, 3], 5)
        # Of equals the least one.
        self.choose(plan, "xxxxxx", (3,), ["xxxxxx"], [], 0)
        self.choose(plan, "xxxxxx", (3,), ["xxxxxx"], [0, 1], 4)

    def test_1102_then_the_first_one_in_the_window_again(self):
        plan = Plan(MANY, (3, 0), 2)
        self.choose(plan, "xxxxxx", (), ["xxxxxx"], [0, 1, 3, 4, 5], 3)
        self.choose(plan, "xxx.xx", (), ["xxxxxx"], [0, 1, 3, 4, 5], 4)
        plan.move(12)
        self.choose(plan, "xxxxxx", (), ["xxxxxx"], [0, 1, 3, 4, 5], 0)
        plan.move(13)
        self.choose(plan, "xxxxxx", (), ["xxxxxx"], [0, 1, 3, 4, 5], 1)

    def test_1102_then_the_least_one(self):
        plan = Plan(MANY, (3, 0), 2)
        self.choose(plan, "xx...x", (), ["xxxxxx"], [0, 1, 5], 0)
        plan.move(15)
        self.choose(plan, "xxxxxx", (0,), ["xxxxxx"], [1, 3, 4, 5], 1)

    def test_1102_none(self):
        plan = Plan(MANY, (3, 0), 2)
        self.choose(plan, "......", (), ["xxxxxx"], [], None)
        self.choose(plan, "..x...", (), ["xxxxxx"], [], None)
        self.choose(plan, "xxxxxx", range(6), ["xxxxxx"], [3], None)
        self.choose(plan, "...x..", (3,), ["xxxxxx"], [], None)

    def test_1102_behind_all_wanted_pieces(self):
        plan = Plan(MANY, (0,), 5)
        fields = ["xxxxxx", "..x.xx", "....x."]
        self.choose(plan, "xxxxxx", (0, 1), fields, [], 3)
        self.choose(plan, "xxxxxx", (0, 1), fields, [3], 2)
        self.choose(plan, "xxxxxx", (0, 1, 2), fields, [3, 5], 4)
        self.choose(plan, "xxxxxx", (0, 1), fields, [2, 3, 4, 5], 2)
        self.choose(Plan(MANY, (1,), 1), "xxxxxx", (), ["xxxxxx", "x....."], [], 1)

    def test_1102_drawn(self):
        chance = random.Random(1102)
        for _ in range(4000):
            files = tuple(chance.sample(range(4), chance.randrange(1, 5)))
            stream = stream_as_told(MANY, files)
            window, place = chance.randrange(1, 8), chance.randrange(len(stream) + 1)
            plan = Plan(MANY, files, window)
            plan.move(place)
            fields = [tuple(chance.random() < 0.6 for _ in range(6)) for _ in range(chance.randrange(1, 4))]
            held = tuple(sorted(chance.sample(range(6), chance.randrange(6))))
            asked = [chance.choice((None, *range(6))) for _ in range(chance.randrange(7))]
            row = window_as_told(stream, place, window)
            with Unchanged(self, fields, held, asked):
                self.assertEqual(plan.wants(fields[0], held), wants_as_told(stream, fields[0], held))
                self.assertEqual(plan.choose(fields[0], held, fields, asked),
                                 choice_as_told(stream, row, fields[0], held, fields, asked))
            self.assertEqual(plan.place(), place)


class Policies(unittest.TestCase):
    """Points 610 and 701, with plans as policies."""

    SAMPLE = Sample(6, 0, 7, 9)

    def order(self, files, window, *had):
        """The order in which one holder is asked, until nothing is wished any more."""
        side = Side(*had, sample=self.SAMPLE, policy=Plan(self.SAMPLE.description, files, window))
        side.join(1, "x" * 6)
        side.say(1, ("unchoke",))
        found, wishes = [], []
        for _ in range(12):
            for _, number, message in side.tick()[0]:
                self.assertEqual(number, 1)
                (found if message[0] == "ask" else wishes).append(message)
                if message[0] == "ask":
                    side.say(1, side.piece(message[1]))
            side.sync()
        self.assertEqual(wishes, [("wish",), ("nowish",)])
        return tuple(index for _, index in found)

    def test_1102_the_order_in_which_one_holder_is_asked(self):
        self.assertEqual(self.order((3, 2, 0), 1000), (3, 4, 5, 1, 2, 0))
        self.assertEqual(self.order((2, 0), 1000), (1, 2, 3, 0, 4, 5))
        # Behind the window, which stays where it is, the least one.
        self.assertEqual(self.order((3, 2, 0), 1), (3, 0, 1, 2, 4, 5))
        self.assertEqual(self.order((3, 0), 2), (3, 4, 0, 1, 5, 2))
        self.assertEqual(self.order((3,), 2, 3), (4, 5, 0, 1, 2))
        self.assertEqual(self.order((1,), 5), (0, 1, 2, 3, 4, 5))

    def test_1102_several_holders_are_asked_for_different_pieces(self):
        side = Side(sample=self.SAMPLE, policy=Plan(self.SAMPLE.description, (3, 0), 2))
        for number in (1, 2, 3, 4, 5, 6):
            side.join(number, "xxxxxx")
            side.say(number, ("unchoke",))
        deeds, _ = side.tick()
        asks = [(number, message[1]) for _, number, message in deeds if message[0] == "ask"]
        self.assertEqual(asks, [(1, 3), (2, 4), (3, 0), (4, 1), (5, 5), (6, 3)])

    def test_1102_the_place_that_is_moved_changes_what_is_asked(self):
        plan = Plan(self.SAMPLE.description, (3, 2, 0), 1)
        side = Side(sample=self.SAMPLE, policy=plan)
        side.join(1, "xxxxxx")
        side.say(1, ("unchoke",))
        for place, due in ((0, 3), (11, 2), (9, 1), (16, 0)):
            plan.move(place)
            self.assertIn(("send", 1, ("ask", due)), side.tick()[0])
            side.say(1, side.piece(due))

    def test_1102_no_wish_of_a_neighbour_without_a_wanted_piece(self):
        side = Side(sample=self.SAMPLE, policy=Plan(self.SAMPLE.description, (3,), 5))
        side.join(1, "xxx...")
        side.join(2, "...x..")
        self.assertEqual(side.tick()[0], [("send", 2, ("wish",))])
        side.say(1, ("have", 5))
        self.assertEqual(side.tick()[0], [("send", 1, ("wish",))])
        # With all wanted pieces, the others are wished.
        side.say(2, side.piece(3), side.piece(4))
        self.assertEqual(side.tick()[0], [("send", 2, ("nowish",))])
        side.say(2, side.piece(5))
        self.assertEqual(side.tick()[0], [])
        self.assertEqual([message for _, _, message in side.sync()[0] if message[0] == "wish"], [])
        side.say(1, ("unchoke",))
        self.assertEqual(side.tick()[0], [("send", 1, ("ask", 0))])

    def test_701_a_swarm_with_plans(self):
        sample = self.SAMPLE
        world = (((0, (0, 1, 2, 3, 4, 5)), (1, ()), (2, ())), (), ((0, 1), (0, 2)))
        plans = {1: Plan(sample.description, (3,), 1000), 2: Plan(sample.description, (2, 3), 1000)}
        swarm = Swarm(sample.description, sample.pieces, world, policies=plans)
        order = {1: [], 2: []}
        for _ in range(150):
            swarm.quiet(1)
            if swarm.now == 20:
                # Plans go on over all lives of the peer.
                swarm.tick((("fall", 1, ()),))
        for _, peer, kind, *items in swarm.log.rows():
            if kind == "had" and peer in order and items[0] not in order[peer]:
                order[peer].append(items[0])
        self.assertEqual(order, {1: [3, 4, 5, 0, 1, 2], 2: [1, 2, 3, 4, 5, 0]})

    def test_1102_two_peers_that_want_what_lies_behind_the_other_one(self):
        """Neither hands on what it does not want: point 708 does not hold for peers with plans."""
        sample = Sample(4, 4)
        world = (((0, (0,)), (1, ()), (2, ()), (3, (1,))), (), ((0, 1), (1, 2), (2, 3)))
        plans = {1: Plan(sample.description, (1,), 5), 2: Plan(sample.description, (0,), 5)}
        swarm = Swarm(sample.description, sample.pieces, world, policies=plans)
        swarm.quiet(120)
        self.assertEqual([swarm.had(number) for number in range(4)], [(0,), (), (), (1,)])


if __name__ == "__main__":
    unittest.main()

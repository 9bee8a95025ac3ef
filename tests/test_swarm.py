"""Points 701 to 706, and the heading swarmwhole/swarm.py of the interface."""

import unittest

from swarmwhole.errors import BadDescription, BadSchedule, BadSwarm
from swarmwhole.frames import frame
from swarmwhole.logs import Log
from swarmwhole.swarm import Swarm
from swarmwhole.wishes import choice, wanted
from tests.helpers import ANY_VALUES, Unchanged
from tests.peers import FIVE, Side, flags
from tests.samples import SHA, WRONG_DESCRIPTIONS, Sample, path

ALL = (0, 1, 2, 3, 4)
# 1 has all pieces, 2 has two, 4 has none; 3 and 7 are forgers.
WORLD = (((1, ALL), (2, (0, 3)), (4, ())), (3, 7), ((1, 2), (1, 4), (2, 3), (2, 4), (3, 4), (3, 7)))
HELLO, WISH = Side().hello, ("wish",)


def swarm_of(world=WORLD, sample=FIVE, **more):
    return Swarm(sample.description, sample.pieces, world, **more)


def stream(*messages):
    return Side().stream(*messages)


def piece(index):
    return Side().piece(index)


def had_rows(tick, peer, *indexes, sample=FIVE):
    return [(tick, peer, "had", index, sample.pieces[index], sample.proofs[index]) for index in indexes]


def opening(side, other, claims):
    """The messages that a peer gets when a connection begins."""
    return [(side, "got", other, HELLO), (side, "got", other, ("field", flags(claims)))]


class SwarmCase(unittest.TestCase):
    def rows(self, swarm, *events):
        """The rows of one more tick."""
        before = len(swarm.log.rows())
        self.assertIsNone(swarm.tick(events))
        rows = swarm.log.rows()[before:]
        self.assertEqual({row[0] for row in rows} - {swarm.now - 1}, set())
        return [row[1:] for row in rows]

    def kinds(self, swarm, *events):
        return [row[:3] for row in self.rows(swarm, *events)]

    def nothing(self, ahead, *events):
        """None of the events changes anything, behind those that come ahead, now or later on."""
        swarms = swarm_of(), swarm_of()
        for swarm in swarms:
            swarm.tick(ahead)
        for event in events:
            with self.subTest(event):
                before = len(swarms[0].log.rows())
                swarms[0].tick((event,))
                swarms[1].tick(())
                self.assertEqual(swarms[0].log.rows()[before:], swarms[1].log.rows()[before:])
        for swarm in swarms:
            swarm.quiet(12)
        self.assertEqual(swarms[0].log.rows(), swarms[1].log.rows())


class Start(SwarmCase):
    def test_701_the_first_rows(self):
        swarm = swarm_of()
        self.assertEqual(swarm.now, 0)
        self.assertIsInstance(swarm.log, Log)
        self.assertEqual(swarm.log.rows(), [
            (0, 1, "start", 2, ALL), *had_rows(0, 1, *ALL), (0, 2, "start", 2, (0, 3)), *had_rows(0, 2, 0, 3),
            (0, 4, "start", 2, ())])

    def test_701_stores_and_pieces(self):
        swarm = swarm_of()
        for number, had in ((1, ALL), (2, (0, 3)), (4, ())):
            self.assertEqual(swarm.had(number), had)
            self.assertEqual((swarm.store(number).had(), swarm.store(number).life()), (had, 2))
        for number in (0, 3, 7, 99):
            self.assertIsNone(swarm.had(number))
            self.assertIsNone(swarm.store(number))

    def test_701_with_sha(self):
        sample = Sample(40, kind=SHA, size=16)
        swarm = swarm_of((((0, (1,)),), (), ()), sample)
        self.assertEqual(swarm.log.rows(), [(0, 0, "start", 2, (1,)), *had_rows(0, 0, 1, sample=sample)])

    def test_704_a_blank_slot_that_fits(self):
        sample = Sample(3, kind=("sum", 1))
        zeros = (sample.description[0], ("sum", 1), 4, ((path("a"), 4),), sample.hasher.digest((0,) * 5))
        swarm = Swarm(zeros, ((0,) * 4,), (((5, ()),), (), ()))
        self.assertEqual(swarm.log.rows(), [(0, 5, "start", 2, (0,)), (0, 5, "had", 0, (0,) * 4, ())])
        self.assertEqual(swarm.had(5), (0,))

    def test_701_worlds_without_peers(self):
        for world in (((), (), ()), ((), (3, 7), ((3, 7),))):
            swarm = swarm_of(world)
            swarm.quiet(3)
            self.assertEqual((swarm.log.rows(), swarm.now), ([], 3))

    def test_3_what_is_handed_in_stays_as_it_is(self):
        schedule = ((("join", 1, 2),), (("flow", 1, 2, None), ("forge", 3, 7, (1, 2))), (("arm", 2, 0, (1, 1)),))
        policies = {}
        with Unchanged(self, FIVE.description, FIVE.pieces, WORLD, schedule, policies):
            swarm = swarm_of(policies=policies)
            swarm.run(schedule)
            swarm.quiet(3)


class Errors(unittest.TestCase):
    NO_WORLD = ((), ())
    NO_PIECES = FIVE.pieces[:4]

    def test_701_a_wrong_description_comes_first(self):
        for value, reason in WRONG_DESCRIPTIONS:
            for given in ((FIVE.pieces, WORLD), (self.NO_PIECES, self.NO_WORLD), (None, None)):
                with Unchanged(self, value, *given), self.assertRaises(BadDescription) as caught:
                    Swarm(value, *given)
                self.assertEqual(caught.exception.reason, reason)

    def test_701_what_is_no_world(self):
        for world in (*ANY_VALUES, self.NO_WORLD, (((1, (5,)),), (), ()), (((1, ()),), (1,), ()), ((), (), ((0, 1),))):
            for pieces in (FIVE.pieces, self.NO_PIECES, None):
                self.assertRaises(BadSwarm, Swarm, FIVE.description, pieces, world)

    def test_701_what_is_not_the_tuple_of_the_pieces(self):
        pieces = FIVE.pieces
        for wrong in (*ANY_VALUES, self.NO_PIECES, pieces + ((),), list(pieces), pieces[::-1], pieces[1:] + pieces[:1],
                      pieces[:4] + (pieces[4][:2],), pieces[:4] + (pieces[4] + (0,),), ((0,) * 4,) + pieces[1:],
                      pieces[:4] + (list(pieces[4]),), pieces[:4] + (None,), pieces[:4] + ((0, 1, 256),)):
            with Unchanged(self, wrong):
                self.assertRaises(BadSwarm, Swarm, FIVE.description, wrong, WORLD)

    def test_701_pieces_of_other_lengths_with_the_same_leaves(self):
        sample = Sample(8, kind=("sum", 1))
        due = sample.hasher.digest((0,) + sample.pieces[0])
        longer = next((0, 0, 0, 0, last) for last in range(256) if sample.hasher.digest((0,) * 5 + (last,)) == due)
        self.assertRaises(BadSwarm, Swarm, sample.description, (longer, sample.pieces[1]), ((), (), ()))


    def test_701_fewer_pieces_with_the_same_root(self):
        hasher = Sample(8, kind=("sum", 1)).hasher
        first = (1, 2, 3, 4)
        top = hasher.digest((0,) + first)
        second = next((0, 0, 0, last) for last in range(256)
                      if hasher.digest((1,) + top + hasher.digest((0, 0, 0, 0, last))) == top)
        description = (FIVE.description[0], ("sum", 1), 4, ((path("a"), 8),), top)
        self.assertRaises(BadSwarm, Swarm, description, (first,), ((), (), ()))
        self.assertIsInstance(Swarm(description, (first, second), ((), (), ())), Swarm)


class Joins(SwarmCase):
    def test_703_the_lesser_one_is_told_first(self):
        swarm = swarm_of()
        self.assertEqual(self.rows(swarm, ("join", 1, 2)), [(1, "up", 2), (2, "up", 1)])
        self.assertEqual(self.rows(swarm, ("flow", 2, 1, None), ("flow", 1, 2, None)),
                         opening(1, 2, "x..x.") + opening(2, 1, "xxxxx"))

    def test_703_with_a_forger_on_either_side(self):
        swarm = swarm_of()
        self.assertEqual(self.rows(swarm, ("join", 2, 3), ("join", 3, 4), ("join", 3, 7)), [(2, "up", 3), (4, "up", 3)])

    def test_703_joins_that_change_nothing(self):
        self.nothing((), ("join", 1, 3), ("join", 4, 7))

    def test_703_events_of_strangers_that_change_nothing(self):
        pairs = (0, 1), (4, 5), (5, 6), (50, 60)
        strangers = [(word, *pair) for word in ("join", "cut") for pair in pairs]
        self.nothing((), *strangers)
        self.nothing((("join", 1, 2), ("join", 2, 3), ("join", 3, 7)), *strangers)

    def test_703_not_if_it_is_up(self):
        self.nothing((("join", 1, 2), ("join", 2, 3), ("join", 3, 7)), ("join", 1, 2), ("join", 2, 3), ("join", 3, 7))

    def test_703_not_if_one_does_not_run(self):
        self.nothing((("fall", 2, ()),), ("join", 1, 2), ("join", 2, 3), ("join", 2, 4))

    def test_703_not_if_the_other_one_was_barred(self):
        swarm = swarm_of()
        self.rows(swarm, ("join", 2, 3), ("forge", 3, 2, (0, 0, 0, 0)), ("flow", 3, 2, None))
        for _ in range(3):
            self.assertEqual(self.rows(swarm, ("join", 2, 3)), [])
        # Others take it, and so does this one in another life.
        self.assertEqual(self.rows(swarm, ("join", 3, 4)), [(4, "up", 3)])
        self.assertEqual(self.rows(swarm, ("fall", 2, ()), ("rise", 2), ("join", 2, 3))[-1], (2, "up", 3))


class Cuts(SwarmCase):
    def test_703_both_are_told_and_what_is_on_its_way_is_gone(self):
        swarm = swarm_of()
        self.rows(swarm, ("join", 1, 2))
        self.assertEqual(self.rows(swarm, ("cut", 1, 2), ("flow", 1, 2, None), ("flow", 2, 1, None)),
                         [(1, "down", 2), (2, "down", 1)])
        # The conversation begins again.
        self.assertEqual(self.rows(swarm, ("join", 1, 2), ("flow", 1, 2, None)),
                         [(1, "up", 2), (2, "up", 1)] + opening(2, 1, "xxxxx"))

    def test_703_one_that_comes_again_in_the_middle_of_a_frame(self):
        swarm = swarm_of()
        self.rows(swarm, ("join", 1, 2), ("flow", 1, 2, 7), ("cut", 1, 2))
        self.assertEqual(self.rows(swarm, ("join", 1, 2), ("flow", 1, 2, None))[2:], opening(2, 1, "xxxxx"))

    def test_703_with_a_forger(self):
        swarm = swarm_of()
        self.rows(swarm, ("join", 2, 3), ("join", 3, 4), ("join", 3, 7), ("forge", 3, 4, stream(HELLO)))
        self.assertEqual(self.rows(swarm, ("cut", 2, 3), ("cut", 3, 7), ("cut", 3, 4), ("flow", 3, 4, None)),
                         [(2, "down", 3), (4, "down", 3)])

    def test_703_cuts_that_change_nothing(self):
        self.nothing((("join", 1, 2), ("join", 3, 4)), ("cut", 1, 4), ("cut", 1, 3), ("cut", 3, 7))
        self.nothing((("join", 1, 2), ("cut", 1, 2)), ("cut", 1, 2))


class Flows(SwarmCase):
    def test_703_so_many_octets(self):
        swarm = swarm_of()
        octets = stream(HELLO, ("field", flags(".....")), WISH)
        self.rows(swarm, ("join", 2, 3), ("forge", 3, 2, octets[:9]), ("forge", 3, 2, octets[9:]))
        first = len(stream(HELLO))
        due = [(2, "got", 3, HELLO), (2, "got", 3, ("field", flags("....."))), (2, "got", 3, WISH)]
        self.assertEqual(self.rows(swarm, ("flow", 3, 2, 0)), [])
        self.assertEqual(self.rows(swarm, ("flow", 3, 2, first - 1)), [])
        self.assertEqual(self.rows(swarm, ("flow", 3, 2, 1)), due[:1])
        self.assertEqual(self.rows(swarm, ("flow", 3, 2, len(octets) - first - 1)), due[1:2])
        self.assertEqual(self.rows(swarm, ("flow", 3, 2, 1000)), due[2:] + [(2, "turn", 3)])
        self.assertEqual(self.rows(swarm, ("flow", 3, 2, None), ("flow", 3, 2, 5)), [])

    def test_703_octets_come_in_order_and_once(self):
        swarm = swarm_of()
        octets = stream(HELLO, ("field", flags(".....")), *[("have", index) for index in (4, 0, 2)])
        self.rows(swarm, ("join", 2, 3), ("forge", 3, 2, octets))
        rows = self.rows(swarm, *[("flow", 3, 2, 3)] * 20)
        self.assertEqual([row[3][0] for row in rows], ["hello", "field", "have", "have", "have"])
        self.assertEqual([row[3][1] for row in rows[2:]], [4, 0, 2])

    def test_703_none_stands_for_all(self):
        swarm = swarm_of()
        self.rows(swarm, ("join", 2, 3), ("forge", 3, 2, stream(HELLO)),
                  ("forge", 3, 2, stream(("field", flags("x...x")))))
        self.assertEqual(self.rows(swarm, ("flow", 3, 2, None)), opening(2, 3, "x...x"))

    def test_703_both_directions_are_apart(self):
        swarm = swarm_of()
        self.rows(swarm, ("join", 1, 2))
        self.assertEqual(self.rows(swarm, ("flow", 1, 2, None)), opening(2, 1, "xxxxx"))
        self.assertEqual(self.rows(swarm, ("flow", 2, 1, None)),
                         opening(1, 2, "x..x.") + [(1, "got", 2, WISH), (1, "turn", 2)])

    def test_703_what_comes_to_a_forger_is_not_looked_at(self):
        swarm = swarm_of()
        self.rows(swarm, ("join", 2, 3), ("join", 3, 7), ("forge", 3, 7, (9, 9)))
        self.assertEqual(self.rows(swarm, ("flow", 2, 3, None), ("flow", 3, 7, None), ("flow", 7, 3, None)), [])

    def test_703_flows_that_change_nothing(self):
        self.nothing((("join", 1, 2),), ("flow", 1, 2, 0), ("flow", 1, 4, None), ("flow", 2, 3, 5), ("flow", 1, 1, 5),
                     ("flow", 8, 9, None), ("flow", 3, 2, None))

    def test_702_what_is_put_on_its_way_in_a_tick_comes_in_the_same_one(self):
        swarm = swarm_of()
        rows = self.rows(swarm, ("join", 1, 2), ("flow", 1, 2, None), ("join", 2, 3), ("forge", 3, 2, stream(HELLO)),
                         ("flow", 3, 2, None))
        self.assertEqual(rows,
                         [(1, "up", 2), (2, "up", 1), *opening(2, 1, "xxxxx"), (2, "up", 3), (2, "got", 3, HELLO)])

    def test_703_one_that_is_told_is_closed_at_once(self):
        swarm = swarm_of()
        self.rows(swarm, ("join", 2, 3), ("join", 2, 4), ("forge", 3, 2, stream(HELLO, ("have", 0)) + stream(WISH) * 5))
        rows = self.rows(swarm, ("flow", 3, 2, len(stream(HELLO, ("have", 0)))), ("flow", 3, 2, None),
                         ("forge", 3, 2, (1, 2)))
        self.assertEqual(rows, [(2, "got", 3, HELLO), (2, "got", 3, None), (2, "told", 3), (2, "down", 3)])


class Forges(SwarmCase):
    def test_703_only_of_forgers_with_a_connection(self):
        ahead = (("join", 1, 2), ("join", 2, 3))
        self.nothing(ahead, ("forge", 1, 2, (0, 0, 0, 0)), ("forge", 2, 3, (0, 0, 0, 0)), ("forge", 3, 4, (0, 0, 0, 0)),
                     ("forge", 3, 7, (0, 0, 0, 0)), ("forge", 99, 2, (0, 0, 0, 0)), ("forge", 3, 3, (0,)),
                     ("forge", 3, 2, ()))

    def test_703_what_is_forged_is_taken(self):
        swarm = swarm_of()
        message = ("piece", 1, (0, 0, 0, 0), FIVE.proofs[1])
        self.rows(swarm, ("join", 2, 3),
                  ("forge", 3, 2, stream(HELLO, ("field", flags("xxxxx")), piece(1), message, WISH)))
        rows = self.rows(swarm, ("flow", 3, 2, None))
        self.assertEqual(rows, opening(2, 3, "xxxxx") + [
            (2, "got", 3, piece(1)), (2, "got", 3, message), (2, "told", 3), (2, "down", 3),
            (2, "had", 1, FIVE.pieces[1], FIVE.proofs[1])])
        self.assertEqual(swarm.had(2), (0, 1, 3))


class Ticks(SwarmCase):
    def test_702_all_ticks_and_then_all_syncs(self):
        swarm = swarm_of()
        opened = stream(HELLO, ("field", flags(".....")), WISH, piece(1))
        self.rows(swarm, ("join", 2, 3), ("join", 3, 4), ("forge", 3, 2, opened), ("forge", 3, 4, opened))
        rows = self.rows(swarm, ("flow", 3, 4, None), ("flow", 3, 2, None))
        self.assertEqual(rows[8:],
                         [(2, "turn", 3), (4, "turn", 3), *[row[1:] for row in had_rows(0, 2, 1) + had_rows(0, 4, 1)]])

    def test_702_what_a_tick_sends_comes_with_a_later_flow(self):
        swarm = swarm_of()
        self.rows(swarm, ("join", 1, 2), ("flow", 1, 2, None))
        self.assertEqual(self.rows(swarm, ("flow", 2, 1, None))[2:], [(1, "got", 2, WISH), (1, "turn", 2)])
        self.assertEqual(self.rows(swarm, ("flow", 1, 2, None)), [(2, "got", 1, ("unchoke",))])
        self.assertEqual(self.rows(swarm, ("flow", 2, 1, None)), [(1, "got", 2, ("ask", 1))])
        self.assertEqual(self.rows(swarm, ("flow", 1, 2, None)),
                         [(2, "got", 1, piece(1)), (2, "had", 1, FIVE.pieces[1], FIVE.proofs[1])])
        self.assertEqual(self.rows(swarm, ("flow", 2, 1, None)),
                         [(1, "got", 2, ("ask", 2)), (1, "got", 2, ("have", 1))])

    def test_702_ticks_count_from_0(self):
        swarm = swarm_of()
        for tick in range(3):
            self.assertEqual(swarm.now, tick)
            swarm.tick((("fall", 1, ()), ("rise", 1)))
        self.assertEqual([row[0] for row in swarm.log.rows() if row[2] == "fall"], [0, 1, 2])

    def test_705_run(self):
        schedule = ((("join", 1, 2),), (), (("flow", 1, 2, None),))
        swarm, other = swarm_of(), swarm_of()
        self.assertIsNone(swarm.run(schedule))
        for events in schedule:
            other.tick(events)
        self.assertEqual((swarm.now, swarm.log.rows()), (3, other.log.rows()))
        swarm.run(())
        self.assertEqual(swarm.now, 3)

    def test_705_a_wrong_schedule_does_nothing(self):
        swarm = swarm_of()
        before = swarm.log.rows()
        right = (("join", 1, 2), ("fall", 4, ()))
        for schedule, tick in ((None, -1), ([right], -1), ((right, None), 1), ((right, right, (("rise",),)), 2),
                               ((right + ((),),), 0), (right, 0)):
            with self.assertRaises(BadSchedule) as caught:
                swarm.run(schedule)
            self.assertEqual(caught.exception.tick, tick)
            self.assertEqual((swarm.now, swarm.log.rows()), (0, before))

    def test_703_a_schedule_with_a_join_or_cut_in_the_wrong_order_does_nothing(self):
        right = (("fall", 4, ()), ("join", 1, 2), ("flow", 1, 2, None))
        for wrong in (("join", 3, 0), ("join", 2, 2), ("cut", 1, 0), ("cut", 4, 4), ("join", 2, 1), ("cut", 2, 1)):
            swarm = swarm_of()
            swarm.run(((("join", 1, 2),),))
            before = swarm.log.rows()
            had = [swarm.had(number) for number in (1, 2, 4)]
            for schedule, tick in (((right, right + (wrong,)), 1), (((wrong,),), 0), ((right, (), (wrong,), None), 2)):
                with self.assertRaises(BadSchedule) as caught:
                    swarm.run(schedule)
                self.assertEqual(caught.exception.tick, tick)
                self.assertEqual((swarm.now, swarm.log.rows()), (1, before))
                self.assertEqual([swarm.had(number) for number in (1, 2, 4)], had)


class Falls(SwarmCase):
    def connected(self):
        """2 is connected with 1, 3 and 4, and all have greeted."""
        swarm = swarm_of()
        self.rows(swarm, ("join", 1, 2), ("join", 2, 3), ("join", 2, 4), ("join", 1, 4))
        self.rows(swarm, *[("flow", one, other, None) for one, other in ((1, 2), (2, 1), (2, 4), (4, 2))])
        return swarm

    def test_704_connections_end_in_order_ahead_of_the_fall(self):
        swarm = self.connected()
        rows = self.rows(swarm, ("fall", 2, ()), ("flow", 1, 2, None), ("flow", 2, 4, None))
        self.assertEqual(rows,
                         [(1, "down", 2), (2, "down", 1), (2, "down", 3), (2, "down", 4), (4, "down", 2), (2, "fall")])
        self.assertIsNone(swarm.had(2))
        self.assertIsNone(swarm.store(2))
        self.assertEqual(swarm.had(4), ())

    def test_703_one_that_has_fallen_does_nothing(self):
        swarm = self.connected()
        swarm.tick((("fall", 2, ()),))
        for _ in range(8):
            self.assertEqual([row for row in self.rows(swarm) if row[0] == 2], [])

    def test_703_rise(self):
        swarm = self.connected()
        swarm.tick((("fall", 2, ()),))
        self.assertEqual(self.rows(swarm, ("rise", 2)),
                         [(2, "start", 3, (0, 3)), *[row[1:] for row in had_rows(0, 2, 0, 3)]])
        self.assertEqual(swarm.had(2), (0, 3))
        self.assertEqual(self.rows(swarm, ("join", 1, 2), ("flow", 2, 1, None))[2:], opening(1, 2, "x..x."))
        self.assertEqual(self.rows(swarm, ("fall", 2, ()), ("rise", 2))[3], (2, "start", 4, (0, 3)))

    def test_703_falls_and_rises_that_change_nothing(self):
        self.nothing((), ("fall", 3, ()), ("fall", 99, (1,)), ("rise", 1), ("rise", 3), ("rise", 99))
        self.nothing((("fall", 2, ()),), ("fall", 2, (4, 4)), ("fall", 2, ()))

    def test_703_what_is_kept_of_a_fall(self):
        for kept, due in (((), ()), ((4, 6), (1,)), ((4, 5), ()), ((3, 6), ()), ((9, 9, 9), (1,)), ((4,), ())):
            swarm = swarm_of()
            opened = stream(HELLO, ("field", flags(".....")), piece(1))
            self.rows(swarm, ("join", 3, 4), ("forge", 3, 4, opened))
            rows = self.rows(swarm, ("flow", 3, 4, None), ("fall", 4, kept), ("rise", 4))
            self.assertEqual(rows[3:], [(4, "down", 3), (4, "fall"), (4, "start", 3, due),
                                        *[row[1:] for row in had_rows(0, 4, *due)]])

    def test_703_a_fall_in_the_middle_of_received(self):
        for count, kept, due in ((0, (9, 9), ()), (1, (9, 9), ()), (2, (9, 9), (1,)), (2, (4, 6, 4), (1,)),
                                 (3, (4, 6, 4, 6), (1,)),
                                 (2, (4, 5), ())):
            swarm = swarm_of()
            opened = stream(HELLO, ("field", flags(".....")), WISH, piece(1), piece(2), ("have", 0))
            self.rows(swarm, ("join", 2, 4), ("join", 3, 4), ("forge", 3, 4, opened), ("arm", 4, count, kept))
            rows = self.rows(swarm, ("flow", 3, 4, None), ("join", 3, 4))
            got = [HELLO, ("field", flags(".....")), WISH, piece(1), piece(2)][:4 if count < 2 else 5]
            self.assertEqual(rows, [*[(4, "got", 3, message) for message in got],
                                    (2, "down", 4), (4, "down", 2), (4, "down", 3), (4, "fall")])
            self.assertIsNone(swarm.store(4))
            self.assertEqual(self.rows(swarm, ("rise", 4))[0], (4, "start", 3, due))

    def test_703_a_fall_in_the_sync(self):
        for kept, due in (((4, 6), (1,)), ((4, 5), ()), ((), ())):
            swarm = swarm_of()
            opened = stream(HELLO, ("field", flags("xx...")), WISH, piece(1))
            self.rows(swarm, ("join", 3, 4), ("forge", 3, 4, opened), ("arm", 4, 2, kept))
            rows = self.rows(swarm, ("flow", 3, 4, None))
            self.assertEqual(rows[4:], [(4, "turn", 3), (4, "down", 3), (4, "fall")])
            self.assertEqual(self.rows(swarm, ("rise", 4))[0], (4, "start", 3, due))

    def test_703_the_syncs_of_others_go_on(self):
        swarm = swarm_of()
        opened = stream(HELLO, ("field", flags(".....")), piece(1))
        self.rows(swarm, ("join", 2, 3), ("join", 3, 4), ("forge", 3, 2, opened), ("forge", 3, 4, opened),
                  ("arm", 2, 2, ()))
        rows = self.rows(swarm, ("flow", 3, 2, None), ("flow", 3, 4, None))
        self.assertEqual(rows[6:], [(2, "down", 3), (2, "fall"), (4, "had", 1, FIVE.pieces[1], FIVE.proofs[1])])

    def test_703_a_disk_that_is_armed_and_never_falls(self):
        swarms = swarm_of(), swarm_of()
        swarms[0].tick(tuple(("arm", number, 1000, (1,)) for number in (1, 2, 4)))
        swarms[1].tick(())
        for swarm in swarms:
            swarm.quiet(40)
        self.assertEqual(swarms[0].log.rows(), swarms[1].log.rows())
        self.assertEqual(swarms[0].had(4), ALL)

    def test_703_a_later_arm_replaces_the_earlier_one(self):
        swarm = swarm_of()
        opened = stream(HELLO, ("field", flags(".....")), piece(1), piece(2))
        self.rows(swarm, ("join", 3, 4), ("forge", 3, 4, opened), ("arm", 4, 0, (9, 9, 9, 9)), ("arm", 4, 3, (4, 6)))
        self.assertEqual(self.kinds(swarm, ("flow", 3, 4, None))[-1], (4, "fall"))
        self.assertEqual(self.rows(swarm, ("rise", 4))[0], (4, "start", 3, (1,)))

    def test_703_an_arm_does_not_last_over_a_fall(self):
        # So no disk falls in a rise, and none behind it.
        swarm = swarm_of()
        swarm.tick((("arm", 4, 0, ()), ("fall", 4, ()), ("arm", 4, 0, ()), ("rise", 4)))
        self.assertEqual(swarm.store(4).life(), 3)
        swarm.quiet(40)
        self.assertEqual(swarm.had(4), ALL)
        self.assertEqual([row for row in swarm.log.rows() if row[2] == "fall"], [(0, 4, "fall")])

    def test_703_arms_that_change_nothing(self):
        self.nothing((("fall", 4, ()),), ("arm", 4, 0, ()), ("arm", 3, 0, ()), ("arm", 99, 0, (1,)))


class Quiet(SwarmCase):
    def test_706_the_events_of_a_quiet_tick(self):
        """The same as ticks whose events are told from the log alone."""
        swarm, other = swarm_of(), swarm_of()
        for each in (swarm, other):
            each.tick((("fall", 2, ()), ("join", 3, 7), ("join", 1, 4)))
        self.assertIsNone(swarm.quiet(25))
        connections = {(1, 4), (3, 7)}
        for _ in range(25):
            before = sorted(connections)
            events = [("rise", number) for number in (1, 2, 4)] + [("join", *pair) for pair in WORLD[2]]
            for one, later in before:
                events += [("flow", one, later, None), ("flow", later, one, None)]
            other.tick(tuple(events))
            connections = self.up(other) | {(3, 7)}
        self.assertEqual(swarm.log.rows(), other.log.rows())
        self.assertEqual(swarm.now, 26)

    def up(self, swarm):
        found = set()
        for _, peer, kind, *items in swarm.log.rows():
            if kind in ("up", "down"):
                pair = min(peer, items[0]), max(peer, items[0])
                found = found | {pair} if kind == "up" else found - {pair}
        return found

    def test_706_one_that_has_fallen_rises_and_joins_in_one_tick_and_its_octets_flow_in_the_next_one(self):
        swarm = swarm_of((((1, ALL), (2, ())), (), ((1, 2),)))
        swarm.tick((("fall", 2, ()),))
        swarm.quiet(1)
        self.assertEqual([row[:3] for row in swarm.log.rows()[-3:]], [(1, 2, "start"), (1, 1, "up"), (1, 2, "up")])
        swarm.quiet(1)
        self.assertEqual([row[:3] for row in swarm.log.rows()[-4:]],
                         [(2, 2, "got"), (2, 2, "got"), (2, 1, "got"), (2, 1, "got")])

    def test_706_no_ticks(self):
        swarm = swarm_of()
        swarm.quiet(0)
        self.assertEqual(swarm.now, 0)

    def test_706_all_get_all(self):
        swarm = swarm_of()
        swarm.quiet(60)
        self.assertEqual([swarm.had(number) for number in (1, 2, 4)], [ALL] * 3)


class Noting:
    """A policy that notes that it was asked."""

    def __init__(self):
        self.held = []

    def wants(self, claims, held):
        self.held.append(held)
        return wanted(claims, held)[:1]

    def choose(self, claims, held, fields, asked):
        return choice(claims, held, fields, asked)


class Nothing:
    def wants(self, claims, held):
        return []

    def choose(self, claims, held, fields, asked):
        return None


class Policies(SwarmCase):
    def test_701_one_that_wants_nothing_stays_so_over_all_lives(self):
        swarm = swarm_of(policies={4: Nothing()})
        for _ in range(3):
            swarm.quiet(25)
            self.assertEqual(swarm.had(4), ())
            swarm.tick((("fall", 4, ()),))
        swarm.quiet(30)
        self.assertEqual([swarm.had(number) for number in (1, 2, 4)], [ALL, ALL, ()])

    def test_701_one_is_asked_in_each_life(self):
        policy = Noting()
        swarm = swarm_of(policies={2: policy})
        swarm.quiet(4)
        before = len(policy.held)
        self.assertGreater(before, 0)
        swarm.tick((("fall", 2, ()), ("rise", 2)))
        swarm.quiet(30)
        self.assertGreater(len(policy.held), before)
        self.assertEqual(swarm.had(2), ALL)

    def test_100_later_changes_to_the_dictionary_have_no_effect(self):
        policies = {4: Nothing()}
        swarm = swarm_of(policies=policies)
        policies.clear()
        policies[2] = Nothing()
        swarm.tick((("fall", 4, ()), ("fall", 2, ())))
        swarm.quiet(40)
        self.assertEqual((swarm.had(2), swarm.had(4)), (ALL, ()))

    def test_701_none_at_all(self):
        for more in ({}, {"policies": None}, {"policies": {}}):
            swarm = swarm_of(**more)
            swarm.quiet(40)
            self.assertEqual(swarm.had(4), ALL)


class Frames(SwarmCase):
    def test_the_octets_on_a_connection_are_frames(self):
        self.assertEqual(stream(HELLO, WISH), frame(FIVE.description, HELLO) + frame(FIVE.description, WISH))


if __name__ == "__main__":
    unittest.main()

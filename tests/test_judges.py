"""Points 803 to 810, and the heading swarmwhole/judges.py of the interface."""

import random
import unittest

from swarmwhole.judges import (claim_fault, collisions, forgers, judge, kept_fault, lacking, piece_fault, stuck,
                               told_fault,
                               turn_fault)
from swarmwhole.trees import fold
from tests.helpers import Unchanged
from tests.peers import FIVE, flags
from tests.samples import SHA, Sample

HONEST = (1, 2, 3)


def start(tick, peer, life, *had):
    return (tick, peer, "start", life, had)


def had(tick, peer, index, sample=FIVE):
    """A row with a piece that fits."""
    return (tick, peer, "had", index, sample.pieces[index], sample.proofs[index])


def unfit(tick, peer, index):
    return (tick, peer, "had", index, FIVE.pieces[0], FIVE.proofs[1])


def got(tick, peer, neighbour, *message):
    return (tick, peer, "got", neighbour, message)


def right(tick, peer, neighbour, index):
    return got(tick, peer, neighbour, "piece", index, FIVE.pieces[index], FIVE.proofs[index])


def wrong(tick, peer, neighbour, index=1):
    return got(tick, peer, neighbour, "piece", index, (0, 0, 0, 0), FIVE.proofs[index])


def refused(tick, peer, neighbour):
    return (tick, peer, "got", neighbour, None)


def told(tick, peer, neighbour):
    return (tick, peer, "told", neighbour)


def up(tick, peer, neighbour):
    return (tick, peer, "up", neighbour)


def down(tick, peer, neighbour):
    return (tick, peer, "down", neighbour)


def turn(tick, peer, neighbour):
    return (tick, peer, "turn", neighbour)


def fall(tick, peer):
    return (tick, peer, "fall")


class JudgeCase(unittest.TestCase):
    def check(self, rows, due):
        rows = list(rows)
        with Unchanged(self, rows, FIVE.description, FIVE.pieces):
            self.assertEqual(self.found(rows), due)


class Pieces(JudgeCase):
    def found(self, rows):
        return piece_fault(FIVE.description, rows)

    def test_804_pieces_that_fit(self):
        self.check([], None)
        self.check([start(0, 1, 2, 0, 9), had(0, 1, 0), had(3, 1, 4), had(3, 7, 2)], None)

    def test_804_the_first_that_does_not(self):
        self.check([had(0, 1, 0), unfit(2, 5, 0), unfit(2, 1, 1)], ("unfit", 2, 5, 0))
        self.check([unfit(2, 1, 1), had(2, 1, 0), unfit(3, 5, 0)], ("unfit", 2, 1, 1))

    def test_804_any_index_octets_and_proof(self):
        piece, proof = FIVE.pieces[1], FIVE.proofs[1]
        for index in (-1, 5, 10 ** 20):
            self.check([(4, 1, "had", index, piece, proof)], ("unfit", 4, 1, index))
        for octets in ((), piece[:3], piece + (0,), None, "abcd", list(piece), 5):
            self.check([(4, 1, "had", 1, octets, proof)], ("unfit", 4, 1, 1))
        for other in ((), proof[:2], proof + ((0, 0),), None, "abc", list(proof), 5, ((1,),) * 3):
            self.check([(4, 1, "had", 1, piece, other)], ("unfit", 4, 1, 1))

    def test_804_other_rows_are_not_looked_at(self):
        self.check([start(0, 1, 2, 77), wrong(0, 1, 2), refused(0, 1, 2), told(0, 1, 2), fall(1, 1), up(1, 1, 2)], None)


class Kept(JudgeCase):
    def found(self, rows):
        return kept_fault(rows)

    def test_804_nothing_is_lost(self):
        self.check([], None)
        self.check([start(0, 1, 2, 0), had(0, 1, 0), had(1, 1, 3), fall(2, 1), start(3, 1, 3, 0, 3),
                    start(9, 1, 4, 0, 1, 3)],
                   None)
        self.check([start(0, 1, 7), start(0, 2, 7), start(1, 1, 8), start(1, 2, 100), start(2, 1, 9)], None)

    def test_804_lives(self):
        for life in (1, 2, 5):
            self.check([start(0, 1, 5), start(0, 2, 1), start(4, 1, life)], ("life", 4, 1))
        self.check([start(0, 1, 5), start(4, 1, 6), start(5, 1, 6)], ("life", 5, 1))

    def test_804_a_life_comes_ahead_of_what_is_lost(self):
        self.check([start(0, 1, 5, 0), start(4, 1, 5)], ("life", 4, 1))

    def test_804_the_least_that_is_lost(self):
        rows = [start(0, 1, 2, 4, 2), had(1, 1, 3), had(1, 2, 0)]
        self.check(rows + [start(2, 1, 3, 4)], ("lost", 2, 1, 2))
        self.check(rows + [start(2, 1, 3, 2, 4)], ("lost", 2, 1, 3))
        self.check(rows + [start(2, 1, 3, 2, 3)], ("lost", 2, 1, 4))
        self.check(rows + [start(2, 1, 3)], ("lost", 2, 1, 2))
        self.check(rows + [start(2, 1, 3, 2, 3, 4)], None)

    def test_804_what_was_had_counts_over_all_lives(self):
        rows = [start(0, 1, 2), had(1, 1, 3), start(2, 1, 3, 3)]
        self.check(rows + [start(3, 1, 4, 3)], None)
        self.check(rows + [start(3, 1, 4)], ("lost", 3, 1, 3))

    def test_804_the_first_in_the_order_of_the_rows(self):
        rows = [start(0, 1, 2, 0), start(0, 2, 2, 0)]
        self.check(rows + [start(1, 2, 3), start(1, 1, 1)], ("lost", 1, 2, 0))
        self.check(rows + [start(1, 1, 1), start(1, 2, 3)], ("life", 1, 1))

    def test_804_also_of_peers_that_are_not_honest_and_pieces_that_there_are_not(self):
        self.check([start(0, 9, 1, 77), start(1, 9, 2)], ("lost", 1, 9, 77))
        self.check([start(0, 9, 1), had(0, 1, 0), (0, 9, "had", -3, (), ()), start(1, 9, 2)], ("lost", 1, 9, -3))


class Collisions(unittest.TestCase):
    SAMPLE = Sample(17, kind=("sum", 1))

    def forged(self, index):
        """Another piece with the same plain sum."""
        piece = self.SAMPLE.pieces[index]
        self.assertLess(piece[0], 255)
        return (piece[0] + 1, (piece[1] - 31) % 256) + piece[2:]

    def found(self, *rows):
        given = self.SAMPLE.description, self.SAMPLE.pieces, list(rows)
        with Unchanged(self, *given):
            return collisions(*given)

    def row(self, index, octets, proof=None, tick=0, peer=1):
        return (tick, peer, "had", index, octets, self.SAMPLE.proofs[index] if proof is None else proof)

    def test_805_none(self):
        self.assertEqual(self.found(), [])
        self.assertEqual(self.found(*[had(0, 1, index, self.SAMPLE) for index in range(5)]), [])

    def test_805_two_texts_with_one_digest_for_each_row(self):
        rows = [self.row(index, self.forged(index), tick=tick, peer=peer)
                for tick, (index, peer) in enumerate(((2, 1), (0, 5), (2, 1)))]
        rows.insert(1, had(0, 1, 1, self.SAMPLE))
        due = [((0,) + self.SAMPLE.pieces[index], (0,) + self.forged(index)) for index in (2, 0, 2)]
        self.assertEqual(self.found(*rows), due)
        for one, other in due:
            self.assertNotEqual(one, other)
            self.assertEqual(self.SAMPLE.hasher.digest(one), self.SAMPLE.hasher.digest(other))

    def test_805_higher_up_the_way(self):
        # With another leaf, some digest beside it leads to the same node.
        hasher, top = self.SAMPLE.hasher, self.SAMPLE.description[4]
        octets = (self.SAMPLE.pieces[0][0] ^ 1,) + self.SAMPLE.pieces[0][1:]
        proof = next(((item,), *self.SAMPLE.proofs[0][1:]) for item in range(256)
                     if fold(hasher, 0, octets, ((item,), *self.SAMPLE.proofs[0][1:])) == top)
        ((one, other),) = self.found(self.row(0, octets, proof))
        self.assertEqual((len(one), len(other), one[0], other[0]), (3, 3, 1, 1))
        self.assertNotEqual(one, other)
        self.assertEqual(hasher.digest(one), hasher.digest(other))

    def test_805_what_does_not_fit_and_other_rows(self):
        piece, proof = self.SAMPLE.pieces[0], self.SAMPLE.proofs[0]
        self.assertEqual(self.found(
            self.row(0, piece[::-1]), self.row(0, piece[:3]), (0, 1, "had", 9, piece, proof),
            (0, 1, "had", -1, piece, proof),
            (0, 1, "had", 0, None, proof), (0, 1, "had", 0, self.forged(0), None),
            got(0, 1, 2, "piece", 0, self.forged(0), proof), start(0, 1, 2, 0), told(0, 1, 2)), [])

    def test_805_the_described_piece_with_another_proof(self):
        # A node has the sum of its two digests times 31 and 1, modulo 256: other ones with the same sum are found.
        hasher, top = self.SAMPLE.hasher, self.SAMPLE.description[4]
        proof = next((((one,), (other,), *self.SAMPLE.proofs[0][2:])) for one in range(256) for other in range(256)
                     if ((one,), (other,)) != self.SAMPLE.proofs[0][:2]
                     and fold(hasher, 0, self.SAMPLE.pieces[0], ((one,), (other,), *self.SAMPLE.proofs[0][2:])) == top)
        self.assertEqual(self.found(self.row(0, self.SAMPLE.pieces[0], proof)), [])


class Told(JudgeCase):
    def found(self, rows):
        return told_fault(FIVE.description, HONEST, rows)

    def test_806_nothing_wrong(self):
        self.check([], None)
        self.check([start(0, 1, 2), up(0, 1, 9), got(0, 1, 9, "wish"), right(0, 1, 9, 3), down(0, 1, 9), up(1, 1, 9)],
                   None)
        for row in (wrong, refused):
            self.check([row(3, 1, 9), told(3, 1, 9), down(3, 1, 9)], None)

    def test_806_told_without_a_reason(self):
        self.check([told(3, 1, 9)], ("told", 3, 1, 9))
        self.check([right(3, 1, 9, 0), got(3, 1, 9, "have", 4), told(3, 1, 9)], ("told", 3, 1, 9))
        self.check([wrong(3, 1, 8), told(3, 1, 8), told(3, 1, 9)], ("told", 3, 1, 9))
        self.check([wrong(3, 2, 9), told(3, 2, 9), told(3, 1, 9)], ("told", 3, 1, 9))
        self.check([told(3, 1, 9), wrong(3, 1, 9)], ("told", 3, 1, 9))

    def test_806_the_reason_must_be_of_this_tick(self):
        self.check([wrong(3, 1, 9), told(3, 1, 9), told(4, 1, 9)], ("told", 4, 1, 9))
        self.check([wrong(3, 1, 9), told(3, 1, 9), told(3, 1, 9)], None)
        self.check([wrong(0, 1, 9), told(0, 1, 9), told(1, 1, 9)], ("told", 1, 1, 9))

    def test_806_an_honest_one_is_told(self):
        self.check([wrong(3, 1, 2), told(3, 1, 2)], ("honest", 3, 1, 2))
        self.check([told(3, 1, 2)], ("told", 3, 1, 2))

    def test_806_connected_again(self):
        rows = [start(0, 1, 2), wrong(3, 1, 9), told(3, 1, 9), down(3, 1, 9)]
        self.check(rows + [up(3, 1, 9)], ("again", 3, 1, 9))
        self.check(rows + [up(90, 1, 9)], ("again", 90, 1, 9))
        self.check(rows + [up(90, 1, 8), up(90, 2, 9), up(91, 4, 9)], None)
        self.check(rows + [fall(4, 1), up(5, 1, 9)], ("again", 5, 1, 9))
        self.check(rows + [fall(4, 1), start(5, 1, 3), up(5, 1, 9)], None)
        self.check(rows + [start(5, 2, 3), up(5, 1, 9)], ("again", 5, 1, 9))
        self.check([up(0, 1, 9), down(0, 1, 9), up(0, 1, 9)] + rows[1:], None)

    def test_806_told_again_behind_a_start(self):
        rows = [wrong(3, 1, 9), told(3, 1, 9), start(4, 1, 3), up(4, 1, 9), refused(5, 1, 9), told(5, 1, 9)]
        self.check(rows, None)
        self.check(rows + [up(6, 1, 9)], ("again", 6, 1, 9))

    def test_806_spared(self):
        for row in (wrong, refused):
            self.check([row(3, 1, 9)], ("spared", 3, 1, 9))
            self.check([row(3, 1, 9), down(3, 1, 9)], ("spared", 3, 1, 9))
            self.check([row(3, 1, 9), told(4, 1, 9)], ("spared", 3, 1, 9))
            self.check([row(3, 1, 9), fall(7, 5)], ("spared", 3, 1, 9))
            self.check([row(3, 1, 9), told(3, 1, 9), row(3, 1, 9)], ("spared", 3, 1, 9))
            self.check([row(3, 1, 9), row(3, 1, 9), told(3, 1, 9)], None)
            self.check([row(0, 1, 9)], ("spared", 0, 1, 9))
            self.check([row(0, 1, 9), up(1, 1, 5)], ("spared", 0, 1, 9))

    def test_806_an_honest_one_is_spared(self):
        self.check([wrong(3, 1, 2)], ("spared", 3, 1, 2))

    def test_806_the_first_that_is_spared(self):
        self.check([wrong(3, 1, 9), wrong(3, 2, 8), told(3, 1, 9)], ("spared", 3, 2, 8))
        self.check([wrong(3, 2, 8), wrong(3, 1, 9)], ("spared", 3, 2, 8))
        self.check([wrong(3, 2, 8), refused(3, 1, 9), wrong(3, 2, 8), told(3, 2, 8)], ("spared", 3, 1, 9))

    def test_806_spared_comes_at_the_end_of_the_tick(self):
        self.check([wrong(3, 1, 9), told(3, 2, 8)], ("told", 3, 2, 8))
        self.check([wrong(3, 1, 9), told(4, 2, 8)], ("spared", 3, 1, 9))
        self.check([wrong(3, 1, 9), (4, 7, "fall"), told(4, 2, 8)], ("spared", 3, 1, 9))

    def test_806_rows_of_others_are_not_looked_at(self):
        self.check([told(3, 7, 1), wrong(3, 7, 1), wrong(3, 9, 2), told(4, 9, 2), up(5, 9, 2), fall(6, 7)], None)

    def test_806_a_piece_of_another_index(self):
        self.check([got(3, 1, 9, "piece", 0, FIVE.pieces[1], FIVE.proofs[1])], ("spared", 3, 1, 9))
        self.check([got(3, 1, 9, "piece", 1, FIVE.pieces[1], FIVE.proofs[1])], None)


class Claims(JudgeCase):
    def found(self, rows):
        return claim_fault(HONEST, rows)

    def test_807_what_was_had(self):
        self.check([], None)
        rows = [start(0, 2, 2, 0), had(1, 2, 3)]
        self.check(rows + [got(1, 1, 2, "field", flags("x..x.")), got(1, 3, 2, "have", 3), right(1, 1, 2, 0)], None)
        self.check(rows + [start(4, 2, 3, 0), got(5, 1, 2, "have", 3)], None)

    def test_807_what_was_never_had(self):
        rows = [start(0, 2, 2, 0), had(1, 2, 3), had(1, 1, 4)]
        self.check(rows + [got(2, 1, 2, "have", 4)], ("claim", 2, 1, 2, 4))
        self.check(rows + [got(2, 1, 2, "field", flags("xxxx."))], ("claim", 2, 1, 2, 1))
        self.check(rows + [got(2, 1, 2, "field", flags("x...x"))], ("claim", 2, 1, 2, 4))
        self.check(rows + [right(2, 3, 2, 1)], ("claim", 2, 3, 2, 1))
        self.check([got(2, 1, 2, "have", 0)], ("claim", 2, 1, 2, 0))

    def test_807_it_must_be_had_ahead(self):
        self.check([got(2, 1, 2, "have", 0), had(2, 2, 0)], ("claim", 2, 1, 2, 0))
        self.check([had(2, 2, 0), got(2, 1, 2, "have", 0)], None)
        self.check([start(2, 2, 2, 0), got(2, 1, 2, "have", 0)], None)

    def test_807_other_messages(self):
        words = [("hello", 1, (0, 0)), ("wish",), ("nowish",), ("choke",), ("unchoke",), ("ask", 3), ("refuse", 3)]
        self.check([got(2, 1, 2, *message) for message in words] + [refused(2, 1, 2),
                                                                    got(2, 1, 2, "field", flags("....."))], None)

    def test_807_other_rows(self):
        rows = [up(0, 2, 3), turn(0, 2, 3), told(0, 2, 3), start(0, 2, 3, 0), wrong(0, 2, 9), down(0, 2, 3)]
        self.check(rows, None)
        self.check(rows + [got(0, 1, 2, "have", 3)], ("claim", 0, 1, 2, 3))

    def test_807_only_among_the_honest(self):
        self.check([got(2, 1, 9, "have", 0), got(2, 9, 1, "have", 0), right(2, 1, 9, 2), got(2, 8, 9, "have", 0)], None)

    def test_807_the_first(self):
        self.check([got(2, 3, 1, "have", 4), got(2, 1, 2, "have", 0)], ("claim", 2, 3, 1, 4))

    def test_807_one_that_has_a_piece_does_not_stand_for_another(self):
        self.check([had(0, 1, 0), had(0, 3, 0), got(2, 1, 2, "have", 0)], ("claim", 2, 1, 2, 0))


class Turns(JudgeCase):
    def found(self, rows):
        return turn_fault(HONEST, rows, 10)

    def test_808_no_wait_is_too_long(self):
        self.check([], None)
        wish = got(5, 1, 9, "wish")
        self.check([wish], None)
        self.check([wish, fall(15, 7)], None)
        self.check([wish, turn(15, 1, 9), fall(99, 7)], None)

    def test_808_too_long(self):
        wish = got(5, 1, 9, "wish")
        for row in (fall(16, 7), fall(99, 1), turn(16, 1, 9), down(16, 1, 9), got(16, 1, 9, "nowish"), fall(16, 1)):
            self.check([wish, fall(15, 2), row, fall(200, 3)], ("turn", 5, 1, 9))

    def test_808_how_a_wait_ends(self):
        wish = got(5, 1, 9, "wish")
        for row in (turn(6, 1, 9), down(6, 1, 9), got(6, 1, 9, "nowish"), fall(6, 1)):
            self.check([wish, row, fall(90, 7)], None)

    def test_808_how_it_does_not_end(self):
        wish = got(5, 1, 9, "wish")
        for row in (turn(6, 1, 8), turn(6, 2, 9), down(6, 1, 8), down(6, 2, 9), got(6, 1, 8, "nowish"),
                    got(6, 2, 9, "nowish"),
                    fall(6, 2), fall(6, 9), got(6, 1, 9, "have", 3), refused(6, 1, 9), told(6, 1, 9), up(6, 1, 9),
                    had(6, 1, 0), start(6, 1, 3), got(6, 1, 9, "wish")):
            self.check([wish, row, fall(16, 7)], ("turn", 5, 1, 9))

    def test_808_a_wait_that_begins_again(self):
        rows = [got(5, 1, 9, "wish"), turn(9, 1, 9), got(9, 1, 9, "wish")]
        self.check(rows + [fall(19, 7)], None)
        self.check(rows + [fall(20, 7)], ("turn", 9, 1, 9))
        self.check([got(5, 1, 9, "wish"), got(6, 1, 9, "nowish"), got(12, 1, 9, "wish"), fall(22, 7)], None)

    def test_808_of_several_the_one_that_began_first(self):
        self.check([got(4, 3, 9, "wish"), got(5, 1, 9, "wish"), fall(90, 7)], ("turn", 4, 3, 9))
        self.check([got(4, 3, 8, "wish"), got(4, 2, 9, "wish"), got(4, 2, 7, "wish"), fall(90, 7)], ("turn", 4, 2, 7))
        self.check([got(4, 3, 8, "wish"), got(4, 1, 9, "wish"), turn(5, 1, 9), got(5, 1, 7, "wish"), fall(90, 7)],
                   ("turn", 4, 3, 8))

    def test_808_only_at_honest_peers_but_of_any_neighbour(self):
        self.check([got(5, 9, 1, "wish"), fall(99, 7)], None)
        self.check([got(5, 1, 2, "wish"), fall(99, 7)], ("turn", 5, 1, 2))

    def test_808_other_bounds(self):
        rows = [got(5, 1, 9, "wish"), fall(5, 7), fall(6, 7)]
        self.assertEqual(turn_fault(HONEST, rows, 0), ("turn", 5, 1, 9))
        self.assertIsNone(turn_fault(HONEST, rows, 1))
        self.assertIsNone(turn_fault((), rows, 0))

    def test_808_a_turn_ahead_of_the_wish(self):
        self.check([turn(5, 1, 9), got(5, 1, 9, "wish"), fall(16, 7)], ("turn", 5, 1, 9))


class Lacking(unittest.TestCase):
    ROWS = [start(2, 1, 2, 0, 1), had(2, 1, 0), had(2, 1, 1), start(2, 2, 2), had(4, 2, 3), had(4, 1, 2),
            start(6, 2, 3, 3, 4),
            had(6, 2, 3), start(9, 1, 3), start(9, 9, 2, 0)]

    def check(self, tick, due, rows=None, honest=(1, 2)):
        given = FIVE.description, honest, self.ROWS if rows is None else rows
        with Unchanged(self, *given):
            self.assertEqual(lacking(*given, tick), due)

    def test_809_at_each_tick(self):
        for tick, due in ((-1, 10), (0, 10), (1, 10), (2, 8), (3, 8), (4, 6), (5, 6), (6, 5), (8, 5), (9, 8), (10, 8),
                          (10 ** 9, 8)):
            self.check(tick, due)

    def test_809_without_rows_and_without_peers(self):
        self.check(5, 10, [])
        self.check(5, 0, honest=())
        self.check(5, 5, [], honest=(4,))

    def test_809_a_fall_takes_nothing_away(self):
        self.check(5, 6, self.ROWS[:6] + [fall(4, 1)])

    def test_809_pieces_that_there_are_not(self):
        rows = [start(0, 1, 2, 0, 5, 77), (0, 1, "had", -1, (), ()), (0, 1, "had", 5, (), ()),
                (0, 2, "had", 10 ** 9, (), ())]
        self.check(0, 9, rows)

    def test_809_a_row_counts_whether_the_piece_fits_or_not(self):
        self.check(0, 9, [unfit(0, 1, 1)])

    def test_809_one_piece_twice(self):
        self.check(0, 9, [had(0, 1, 1), had(0, 1, 1), had(0, 3, 1)])


class Stuck(unittest.TestCase):
    def check(self, due, rows, since, window, honest=(1, 2), description=FIVE.description):
        with Unchanged(self, description, honest, rows):
            self.assertEqual(stuck(description, honest, rows, since, window), due)

    def test_809_without_rows(self):
        for window in (0, 1, 10):
            self.check(None, [], 0, window)

    def test_809_each_window_becomes_less(self):
        rows = [had(3 * index, peer, index) for index in range(5) for peer in (1, 2)] + [fall(40, 1)]
        self.check(None, rows, 0, 3)
        self.check(0, rows, 0, 2)
        self.check(None, rows, 10, 2)
        self.check(9, rows, 9, 2)

    def test_809_nothing_is_lacking(self):
        rows = [start(0, 1, 2, 0, 1, 2, 3, 4), start(0, 2, 2, 0, 1, 2, 3, 4), fall(50, 1)]
        self.check(None, rows, 0, 1)
        self.check(None, rows, 0, 0)

    def test_809_the_first_tick(self):
        rows = [had(2, 1, 0), had(4, 1, 1), had(11, 1, 2), had(12, 1, 3), fall(30, 1)]
        self.check(4, rows, 0, 5)
        self.check(5, rows, 5, 5)
        self.check(6, rows, 6, 4)
        # From 5 on the window just reaches the piece that comes at 11.
        self.check(12, rows, 6, 5)
        self.check(12, rows, 4, 7)
        self.check(12, rows, 0, 18)
        self.check(None, rows, 0, 19)

    def test_809_windows_that_reach_beyond_the_end(self):
        rows = [had(2, 1, 0), fall(10, 1)]
        self.check(2, rows, 0, 8)
        self.check(None, rows, 0, 9)
        self.check(None, rows, 3, 8)
        self.check(None, rows, 10, 1)
        self.check(10, rows, 10, 0)
        self.check(None, rows, 11, 0)
        self.check(5, rows, 5, 5)
        self.check(None, rows, 6, 5)

    def test_809_the_log_ends_at_its_last_row(self):
        self.check(0, [fall(5, 9)], 0, 5)
        self.check(None, [fall(5, 9)], 0, 6)
        self.check(None, [fall(5, 9)], 1, 5)

    def test_809_more_is_not_less(self):
        rows = [start(0, 1, 2, 0, 1), start(6, 1, 3, 0), had(7, 1, 1), had(8, 1, 2), fall(20, 1)]
        # 8 are lacking at first, 9 from tick 6 on, and 7 from tick 8 on.
        self.check(1, rows, 1, 5)
        self.check(2, rows, 2, 4)
        self.check(8, rows, 1, 8)

    def test_809_great_ticks(self):
        rows = [had(10 ** 9, 1, 0), fall(10 ** 12, 1)]
        self.check(0, rows, 0, 5)
        self.check(10 ** 9, rows, 10 ** 9 - 5, 5)
        self.check(10 ** 9 - 5, rows, 10 ** 9 - 5, 4)

    def test_809_drawn_as_told(self):
        chance = random.Random(809)
        one = Sample(12)
        for _ in range(400):
            rows, tick = [], 0
            for _ in range(chance.randrange(12)):
                tick += chance.choice((0, 0, 1, 1, 2, 5))
                peer = chance.choice((1, 2, 3))
                rows.append(chance.choice((had(tick, peer, chance.randrange(3), one), fall(tick, peer),
                                           start(tick, peer, 1,
                                                 *sorted(chance.sample(range(3), chance.randrange(4)))))))
            since, window = chance.randrange(10), chance.randrange(8)
            due = None
            for at in range(since, (rows[-1][0] if rows else -1) - window + 1):
                now = lacking(one.description, (1, 2), rows, at)
                if due is None and 0 < now <= lacking(one.description, (1, 2), rows, at + window):
                    due = at
            self.check(due, rows, since, window, description=one.description)


class All(unittest.TestCase):
    def test_810_forgers(self):
        rows = [told(0, 1, 9), told(0, 2, 4), told(3, 1, 4), told(3, 9, 30), told(3, 9, 2), fall(4, 1), down(4, 1, 77)]
        with Unchanged(self, rows):
            self.assertEqual(forgers(rows), (2, 4, 9, 30))
        self.assertEqual(forgers([]), ())
        self.assertEqual(forgers([wrong(0, 1, 9), refused(0, 1, 9)]), ())

    def test_810_all_faults_in_the_order_of_the_judges(self):
        rows = [got(0, 1, 2, "wish"), start(0, 2, 5, 0), told(0, 1, 9), got(0, 1, 2, "have", 3), start(50, 2, 5),
                unfit(50, 1, 1)]
        found = {
            "unfit": ("unfit", 50, 1, 1), "life": ("life", 50, 2), "told": ("told", 0, 1, 9),
            "claim": ("claim", 0, 1, 2, 3),
            "turn": ("turn", 0, 1, 2),
        }
        given = FIVE.description, FIVE.pieces, HONEST, rows, 10
        with Unchanged(self, *given):
            self.assertEqual(judge(*given), list(found.values()))
        for place, (word, row) in enumerate((("turn", 0), ("told", 2), ("claim", 3), ("unfit", 5))):
            left = rows[:row] + rows[row + 1:]
            self.assertEqual(judge(FIVE.description, FIVE.pieces, HONEST, left, 10),
                             [fault for name, fault in found.items() if name != word], place)
        self.assertEqual(judge(FIVE.description, FIVE.pieces, HONEST, [], 10), [])
        self.assertEqual(judge(FIVE.description, FIVE.pieces, HONEST, rows, 50), list(found.values())[:4])

    def test_803_with_sha(self):
        sample = Sample(40, kind=SHA, size=16)
        rows = [start(0, 1, 2), had(1, 1, 2, sample), got(1, 1, 9, "piece", 0, sample.pieces[0], sample.proofs[0])]
        self.assertEqual(judge(sample.description, sample.pieces, (1,), rows, 5), [])
        rows.append((2, 1, "had", 0, sample.pieces[1], sample.proofs[1]))
        rows.append(got(2, 1, 9, "piece", 1, sample.pieces[0], sample.proofs[1]))
        self.assertEqual(judge(sample.description, sample.pieces, (1,), rows, 5),
                         [("unfit", 2, 1, 0), ("spared", 2, 1, 9)])
        self.assertEqual(collisions(sample.description, sample.pieces, rows), [])


if __name__ == "__main__":
    unittest.main()

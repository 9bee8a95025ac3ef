"""Points 604 to 607 and 610: what a peer does at the end of a tick."""

import random
import unittest

from swarmwhole.limits import ROUND, TURN
from swarmwhole.peer import Peer
from swarmwhole.store import Store
from swarmwhole.wishes import choice, wanted
from tests.helpers import Unchanged
from tests.peers import FIVE, Side
from tests.samples import Sample


def sent(number, *message):
    return ("send", number, message)


class TickCase(unittest.TestCase):
    def tick(self, side, *deeds, turn=None):
        """The deeds of a tick, and the event of the neighbour that the slot is dealt to."""
        side.saw()
        events = [] if turn is None else [("turn", turn)]
        self.assertEqual(side.tick(), (list(deeds), events))

    def wishing(self, side, *numbers, claims="....."):
        for number in numbers:
            side.join(number, claims)
            side.say(number, ("wish",))


class Order(TickCase):
    def test_604_slots_wishes_and_asks_one_behind_the_other_and_neighbours_ascending(self):
        side = Side(0)
        for number in (9, 2, 30, 5):
            side.join(number, "xxxxx")
            side.say(number, side.piece(1), ("unchoke",), ("wish",))
        side.clear()
        self.tick(side, *[sent(number, "unchoke") for number in (2, 5, 9)],
                  *[sent(number, "wish") for number in (2, 5, 9, 30)],
                  sent(2, "ask", 2), sent(5, "ask", 3), sent(9, "ask", 4), sent(30, "ask", 2), turn=2)

    def test_605_chokes_and_unchokes_go_by_the_neighbours(self):
        side = Side(0)
        self.wishing(side, 1, 2, 3)
        self.tick(side, sent(1, "unchoke"), turn=1)
        side.say(1, ("nowish",))
        self.tick(side, sent(1, "choke"), sent(2, "unchoke"), turn=2)
        side.say(2, ("nowish",))
        side.say(3, ("nowish",))
        side.say(1, ("wish",))
        self.tick(side, sent(1, "unchoke"), sent(2, "choke"), turn=1)

    def test_604_only_those_that_have_sent_field(self):
        side = Side(0)
        side.peer.connected(1)
        side.clear()
        self.tick(side)
        side.say(1, side.hello)
        self.tick(side)
        self.wishing(side, 4, claims="xx...")
        self.tick(side, sent(4, "unchoke"), sent(4, "wish"), turn=4)
        side.say(1, ("field", (True,) * 5))
        self.tick(side, sent(1, "wish"))

    def test_600_without_neighbours(self):
        side = Side(0)
        for _ in range(2 * TURN):
            self.assertIsNone(side.peer.tick())
            self.tick(side)


class Slots(TickCase):
    def test_605_the_slot_goes_round(self):
        side = Side(0)
        self.wishing(side, 1, 2, 3)
        self.tick(side, sent(1, "unchoke"), turn=1)
        for before, number in ((1, 2), (2, 3), (3, 1)):
            for _ in range(TURN - 1):
                self.tick(side)
            first, second = sorted((before, number))
            due = {before: "choke", number: "unchoke"}
            self.tick(side, sent(first, due[first]), sent(second, due[second]), turn=number)

    def test_605_one_that_holds_it_again_is_not_told_again(self):
        side = Side(0)
        self.wishing(side, 4)
        self.tick(side, sent(4, "unchoke"), turn=4)
        for _ in range(3):
            for _ in range(TURN - 1):
                self.tick(side)
            self.tick(side, turn=4)

    def test_605_a_holder_that_leaves(self):
        side = Side(0)
        self.wishing(side, 1, 2)
        self.tick(side, sent(1, "unchoke"), turn=1)
        side.peer.broken(1)
        self.tick(side, sent(2, "unchoke"), turn=2)

    def test_601_to_whom_it_was_dealt_last_is_remembered(self):
        side = Side(0)
        self.wishing(side, 1, 2)
        self.tick(side, sent(1, "unchoke"), turn=1)
        side.peer.broken(1)
        self.wishing(side, 1)
        self.tick(side, sent(2, "unchoke"), turn=2)
        side.peer.broken(2)
        self.wishing(side, 2)
        self.tick(side, sent(1, "unchoke"), turn=1)

    def test_605_one_that_left_and_came_back_is_told_anew(self):
        side = Side(0)
        self.wishing(side, 1)
        self.tick(side, sent(1, "unchoke"), turn=1)
        side.peer.broken(1)
        self.wishing(side, 1)
        side.say(1, ("ask", 0))
        self.assertEqual(side.did(), [sent(1, "refuse", 0)])
        self.tick(side, sent(1, "unchoke"), turn=1)
        side.say(1, ("ask", 0))
        self.assertEqual(side.did(), [("send", 1, side.piece(0))])


class Rewards(TickCase):
    def test_605_those_that_gave_most(self):
        side = Side(0)
        self.wishing(side, 1, 2, 3, 4)
        side.say(4, side.piece(1), side.piece(2))
        side.say(3, side.piece(3))
        side.clear()
        self.tick(side, sent(1, "unchoke"), sent(3, "unchoke"), sent(4, "unchoke"), turn=1)

    def test_605_every_piece_that_fits_counts(self):
        side = Side(0)
        self.wishing(side, 1, 2, 3, 4)
        # It was not asked for, and is held already.
        for _ in range(3):
            side.say(4, side.piece(0))
        for _ in range(2):
            side.say(2, side.piece(2))
        side.say(3, side.piece(2))
        side.clear()
        self.tick(side, sent(1, "unchoke"), sent(2, "unchoke"), sent(4, "unchoke"), turn=1)

    def test_605_a_piece_that_does_not_fit_does_not_count(self):
        side = Side(0)
        self.wishing(side, 1, 2)
        side.say(2, ("piece", 1, (0, 0, 0, 0), FIVE.proofs[1]))
        side.clear()
        self.tick(side, sent(1, "unchoke"), turn=1)

    def test_605_asks_and_other_messages_are_no_gifts(self):
        side = Side(0)
        self.wishing(side, 1, 2)
        side.say(2, ("have", 1), ("refuse", 1), ("unchoke",), ("ask", 3))
        side.clear()
        self.tick(side, sent(1, "unchoke"), sent(2, "wish"), sent(2, "ask", 1), turn=1)

    def test_605_rewards_are_given_with_a_dealing_only(self):
        side = Side(0)
        self.wishing(side, 1, 2)
        self.tick(side, sent(1, "unchoke"), turn=1)
        side.say(2, side.piece(0))
        for _ in range(TURN - 1):
            self.tick(side)
        # Now it gets the slot itself, and the first one, who gave nothing, has no reward.
        self.tick(side, sent(1, "choke"), sent(2, "unchoke"), turn=2)

    def test_605_what_was_given_counts_for_so_many_ticks(self):
        for back, counts in ((ROUND - 1, True), (ROUND, False)):
            side = Side(0)
            side.join(2, ".....")
            side.say(2, side.piece(0))
            side.ticks(back)
            self.wishing(side, 1)
            side.say(2, ("wish",))
            side.clear()
            due = [sent(1, "unchoke"), sent(2, "unchoke")] if counts else [sent(1, "unchoke")]
            self.tick(side, *due, turn=1)

    def test_605_a_gift_in_each_tick_counts_in_all(self):
        side = Side(0)
        for number in (2, 3, 4):
            side.join(number, ".....")
        for place in range(ROUND):
            side.say(2, *[side.piece(0)] * (place % 2))
            side.say(3, side.piece(0))
            side.say(4, *[side.piece(0)] * (5 if place in (0, 10) else 0))
            if place < ROUND - 1:
                side.ticks(1)
        # 10, 20 and 10 in the last twenty ticks: of equals the lesser number.
        for number in (2, 3, 4):
            side.say(number, ("wish",))
        self.wishing(side, 1)
        side.clear()
        self.tick(side, sent(1, "unchoke"), sent(2, "unchoke"), sent(3, "unchoke"), turn=1)

    def test_601_what_it_gave_counts_behind_a_cut(self):
        side = Side(0)
        side.join(2, ".....")
        side.join(3, ".....")
        side.say(2, side.piece(0), side.piece(0))
        side.say(3, side.piece(0))
        side.ticks(3)
        side.peer.broken(2)
        side.ticks(3)
        side.join(2, ".....")
        side.say(2, ("wish",), side.piece(0))
        side.say(3, ("wish",), side.piece(0))
        self.wishing(side, 1, 4)
        side.say(4, side.piece(0), side.piece(0))
        side.clear()
        # Three, two and two: of equals the lesser number.
        self.tick(side, sent(1, "unchoke"), sent(2, "unchoke"), sent(3, "unchoke"), turn=1)

    def test_605_one_with_a_reward_that_leaves_loses_it(self):
        side = Side(0)
        self.wishing(side, 1, 2)
        side.say(2, side.piece(0))
        side.clear()
        self.tick(side, sent(1, "unchoke"), sent(2, "unchoke"), turn=1)
        side.say(2, ("ask", 0))
        self.assertEqual(side.did(), [("send", 2, side.piece(0))])
        side.peer.broken(2)
        self.wishing(side, 2)
        side.say(2, ("ask", 0))
        self.assertEqual(side.did(), [sent(2, "refuse", 0)])
        self.tick(side)

    def test_605_over_twenty_ticks_as_told(self):
        chance = random.Random(20)
        for _ in range(10):
            side, gifts = Side(0), []
            for number in range(5):
                side.join(number, ".....")
                side.say(number, ("wish",))
            side.clear()
            served = set()
            for tick in range(40):
                for number in range(5):
                    many = chance.choice((0, 0, 1, 2))
                    gifts += [(tick, number)] * many
                    side.say(number, *[side.piece(0)] * many)
                side.clear()
                deeds, events = side.tick()
                if events:
                    holder = events[0][1]
                    totals = {other: gifts_since(gifts, tick - 19, other) for other in range(5) if other != holder}
                    best = sorted((-many, other) for other, many in totals.items() if many)[:2]
                    due = {holder} | {other for _, other in best}
                    words = [sent(other, "unchoke" if other in due else "choke") for other in sorted(due ^ served)]
                    self.assertEqual(deeds, words)
                    served = due
                else:
                    self.assertEqual(deeds, [])
                self.assertEqual(bool(events), tick % TURN == 0)


def gifts_since(gifts, tick, number):
    return sum(1 for at, giver in gifts if at >= tick and giver == number)


class Wishes(TickCase):
    def test_606_told_when_it_changes(self):
        side = Side(0)
        side.join(1, "x....")
        self.tick(side)
        side.say(1, ("have", 3))
        self.tick(side, sent(1, "wish"))
        self.tick(side)
        side.say(1, side.piece(3))
        self.tick(side, sent(1, "nowish"))
        self.tick(side)
        side.say(1, ("have", 2))
        self.tick(side, sent(1, "wish"))

    def test_606_what_is_held_and_not_had_is_not_wished(self):
        side = Side(0)
        side.join(1, ".x...")
        side.join(2, ".x...")
        side.say(1, side.piece(1))
        self.assertEqual(side.store.had(), (0,))
        self.tick(side)

    def test_606_a_piece_that_came_and_a_claim_in_one_tick(self):
        side = Side()
        side.join(1, "x....")
        self.tick(side, sent(1, "wish"))
        side.say(1, side.piece(0), ("have", 1))
        self.tick(side)

    def test_606_each_neighbour_for_itself(self):
        side = Side(0, 1)
        side.join(3, "xx...")
        side.join(1, "xxx..")
        side.join(2, "..x..")
        self.tick(side, sent(1, "wish"), sent(2, "wish"))
        side.say(3, side.piece(2))
        self.tick(side, sent(1, "nowish"), sent(2, "nowish"))


class Questions(TickCase):
    def test_607_only_if_it_may(self):
        side = Side()
        side.join(1, "xx...")
        self.tick(side, sent(1, "wish"))
        self.tick(side)
        side.say(1, ("unchoke",))
        self.tick(side, sent(1, "ask", 0))
        self.tick(side)

    def test_607_nothing_to_wish_nothing_to_ask(self):
        side = Side(0)
        side.join(1, "x....")
        side.say(1, ("unchoke",))
        self.tick(side)

    def test_607_the_rarest_piece(self):
        side = Side(0)
        side.join(1, "xxxx.")
        side.join(2, "xx.x.")
        side.join(3, "xx...")
        side.say(1, ("unchoke",))
        self.tick(side, *[sent(number, "wish") for number in (1, 2, 3)], sent(1, "ask", 2))

    def test_607_a_neighbour_without_a_field_claims_nothing(self):
        side = Side()
        side.join(1, "xx...")
        side.join(2, "x....")
        side.join(3)
        side.say(1, ("unchoke",))
        self.tick(side, sent(1, "wish"), sent(2, "wish"), sent(1, "ask", 1))

    def test_607_what_is_asked_of_others_comes_last(self):
        side = Side()
        for number in (1, 2, 3, 4):
            side.join(number, "xx...")
            side.say(number, ("unchoke",))
        self.tick(side, *[sent(number, "wish") for number in (1, 2, 3, 4)],
                  sent(1, "ask", 0), sent(2, "ask", 1), sent(3, "ask", 0), sent(4, "ask", 0))

    def test_607_what_came_is_not_asked_for_again(self):
        side = Side()
        for number in (1, 2):
            side.join(number, "xx...")
            side.say(number, ("unchoke",))
        side.tick()
        # The other one has sent it first; what was asked of this one is still asked for.
        side.say(2, side.piece(0))
        self.tick(side)
        side.say(1, side.piece(0))
        self.tick(side, sent(1, "ask", 1))

    def test_607_not_the_one_that_is_asked_of_one_who_left(self):
        side = Side()
        for number in (1, 2):
            side.join(number, "xx...")
        side.say(1, ("unchoke",))
        side.tick()
        side.peer.broken(1)
        side.say(2, ("unchoke",))
        self.tick(side, sent(2, "ask", 0))


class Wanting:
    """A policy that notes what it is handed, and answers as it was told."""

    def __init__(self, wants, choose):
        self.answers = wants, choose
        self.seen = []

    def wants(self, claims, held):
        self.seen.append(("wants", claims, held))
        return self.answers[0](claims, held)

    def choose(self, claims, held, fields, asked):
        self.seen.append(("choose", claims, held, list(fields), list(asked)))
        return self.answers[1](claims, held, fields, asked)


class Policies(TickCase):
    def test_610_one_that_wants_nothing(self):
        side = Side(policy=Wanting(lambda *given: [], lambda *given: 0))
        side.join(1, "xxxxx")
        side.say(1, ("unchoke",))
        for _ in range(3):
            self.tick(side)

    def test_610_one_that_chooses_none(self):
        side = Side(policy=Wanting(wanted, lambda *given: None))
        side.join(1, "xxxxx")
        side.say(1, ("unchoke",))
        self.tick(side, sent(1, "wish"))
        self.tick(side)

    def test_610_one_that_chooses_the_greatest(self):
        side = Side(policy=Wanting(wanted, lambda claims, held, fields, asked: wanted(claims, held)[-1]))
        for number in (1, 2):
            side.join(number, "xxxx.")
            side.say(number, ("unchoke",))
        self.tick(side, sent(1, "wish"), sent(2, "wish"), sent(1, "ask", 3), sent(2, "ask", 3))
        side.say(1, side.piece(3))
        self.tick(side, sent(1, "ask", 2))

    def test_610_one_that_wishes_of_a_neighbour_that_claims_nothing(self):
        side = Side(policy=Wanting(lambda *given: [4], lambda *given: 4))
        side.join(1, ".....")
        side.say(1, ("unchoke",))
        self.tick(side, sent(1, "wish"), sent(1, "ask", 4))

    def test_610_wishes_that_change(self):
        answer = [0]
        side = Side(policy=Wanting(lambda *given: list(answer), lambda *given: 0))
        side.join(1, "x....")
        self.tick(side, sent(1, "wish"))
        answer.clear()
        self.tick(side, sent(1, "nowish"))
        side.say(1, ("unchoke",))
        self.tick(side)

    def test_610_what_it_is_handed(self):
        policy = Wanting(wanted, choice)
        side = Side(4, policy=policy)
        for number, claims in ((7, "xx..."), (2, "xxx.."), (5, ".....")):
            side.join(number, claims)
        side.join(9)
        side.say(7, ("unchoke",))
        side.say(2, side.piece(2), ("unchoke",))
        side.tick()
        two, seven, five = (True, True, True, False, False), (True, True, False, False, False), (False,) * 5
        self.assertEqual([(word, tuple(claims), tuple(held)) for word, claims, held, *_ in policy.seen], [
            ("wants", two, (2, 4)), ("wants", five, (2, 4)), ("wants", seven, (2, 4)),
            ("choose", two, (2, 4)), ("choose", seven, (2, 4)),
        ])
        self.assertEqual([[tuple(field) for field in fields] for _, _, _, fields, _ in policy.seen[3:]],
                         [[two, five, seven]] * 2)
        self.assertEqual([asked for _, _, _, _, asked in policy.seen[3:]], [[None, None], [0, None]])

    def test_610_it_is_asked_in_each_tick(self):
        policy = Wanting(lambda *given: [], choice)
        side = Side(policy=policy)
        side.join(1, "xxxxx")
        side.ticks(4)
        self.assertEqual([word for word, *_ in policy.seen], ["wants"] * 4)

    def test_610_like_none_if_it_answers_as_the_peer_would(self):
        chance = random.Random(610)
        plain, led = Side(0), Side(0, policy=Wanting(wanted, choice))
        for side in (plain, led):
            for number in (1, 2, 3):
                side.join(number, ".....")
        for _ in range(100):
            number = chance.choice((1, 2, 3))
            index = chance.randrange(5)
            message = chance.choice((("have", index), ("unchoke",), ("unchoke",), ("choke",), ("refuse", index),
                                     plain.piece(index), ("wish",), ("nowish",), ("ask", index)))
            found = []
            for side in (plain, led):
                side.say(number, message)
                found.append((side.did(), side.saw(), side.tick(), side.sync()))
            self.assertEqual(found[0], found[1])

    def test_100_changing_what_was_handed_over_has_no_effect(self):
        def spoil(claims, held, fields, asked):
            fields.clear()
            asked.clear()
            return 0
        side = Side(policy=Wanting(wanted, spoil))
        for number in (1, 2):
            side.join(number, "xx...")
            side.say(number, ("unchoke",))
        self.tick(side, sent(1, "wish"), sent(2, "wish"), sent(1, "ask", 0), sent(2, "ask", 0))
        side.say(1, ("refuse", 0))
        self.tick(side, sent(1, "ask", 0))

    def test_610_only_by_its_keyword(self):
        sample = Sample(3)
        store = sample.store()
        self.assertRaises(TypeError, Peer, sample.description, store, Wanting(wanted, choice))
        self.assertIsInstance(Peer(sample.description, store, policy=None), Peer)


class Gathering(TickCase):
    def test_one_peer_gets_all_from_another_one(self):
        """Two peers, their deeds carried by hand."""
        sides = Side(0, 1, 2, 3, 4), Side()
        for side, other in ((0, 1), (1, 0)):
            sides[side].peer.connected(other)
        for _ in range(30):
            for side, other in ((0, 1), (1, 0)):
                for word, number, *octets in sides[side].peer.deeds():
                    self.assertEqual((word, number), ("send", other))
                    with Unchanged(self, octets):
                        sides[other].peer.received(side, *octets)
            for side in sides:
                side.peer.tick()
            for side in sides:
                side.peer.synced()
        self.assertEqual(sides[1].store.had(), (0, 1, 2, 3, 4))
        self.assertEqual([event for event in sides[0].saw() if event[0] == "told"], [])
        self.assertEqual(Store(sides[1].disk, FIVE.description).had(), (0, 1, 2, 3, 4))


if __name__ == "__main__":
    unittest.main()

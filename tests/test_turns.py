"""Point 605 as far as it speaks of the slots, and the headings swarmwhole/turns.py and limits.py of the interface."""

import random
import unittest

from swarmwhole.limits import REWARDS, ROUND, TURN, VERSION
from swarmwhole.turns import Turns
from tests.helpers import Unchanged


class Told:
    """The slots as point 605 tells them, over the ticks and with nothing but what it names."""

    def __init__(self):
        self.tick = -1
        self.holder = self.dealt_to = self.dealt_at = None
        self.rewarded = []

    def step(self, wishing, given):
        self.tick += 1
        if self.holder is not None and self.tick < self.dealt_at + 5 and self.holder in wishing:
            return None
        ring = sorted(wishing, key=lambda number: (self.dealt_to is not None and number <= self.dealt_to, number))
        self.holder = ring[0] if ring else None
        if ring:
            self.dealt_to, self.dealt_at = self.holder, self.tick
        best = sorted((number for number in wishing if number != self.holder), key=lambda number: -given.get(number, 0))
        self.rewarded = [number for number in best if given.get(number, 0) > 0][:2]
        return self.holder

    def leave(self, number):
        self.holder = None if self.holder == number else self.holder
        self.rewarded = [other for other in self.rewarded if other != number]

    def served(self):
        return sorted(self.rewarded + [number for number in [self.holder] if number is not None])


class TurnCase(unittest.TestCase):
    def go(self, turns, wishing, given, dealt, served):
        with Unchanged(self, wishing, given):
            self.assertEqual(turns.step(wishing, given), dealt)
        self.assertEqual(turns.served(), served)


class Limits(unittest.TestCase):
    def test_the_numbers(self):
        self.assertEqual((VERSION, TURN, REWARDS, ROUND), (1, 5, 2, 20))


class Slot(TurnCase):
    def test_605_nobody_at_first(self):
        turns = Turns()
        self.assertEqual(turns.served(), [])
        for _ in range(8):
            self.go(turns, [], {}, None, [])
        self.go(turns, [7], {}, 7, [7])

    def test_605_the_time_of_the_slot(self):
        turns = Turns()
        self.go(turns, [1, 2, 3], {}, 1, [1])
        for number in (2, 3, 1, 2):
            for _ in range(TURN - 1):
                self.go(turns, [1, 2, 3], {}, None, [number - 1 if number > 1 else 3])
            self.go(turns, [1, 2, 3], {}, number, [number])

    def test_605_one_alone_is_dealt_to_again(self):
        turns = Turns()
        for _ in range(3):
            self.go(turns, [4], {}, 4, [4])
            for _ in range(TURN - 1):
                self.go(turns, [4], {}, None, [4])

    def test_605_the_least_one_if_it_was_never_dealt(self):
        self.go(Turns(), [0, 5], {}, 0, [0])
        self.go(Turns(), [5, 9], {}, 5, [5])

    def test_605_a_holder_that_does_not_wish_any_more(self):
        turns = Turns()
        self.go(turns, [1, 2], {}, 1, [1])
        self.go(turns, [1, 2], {}, None, [1])
        self.go(turns, [2], {}, 2, [2])
        # Its time begins with this dealing.
        for _ in range(TURN - 1):
            self.go(turns, [1, 2], {}, None, [2])
        self.go(turns, [1, 2], {}, 1, [1])

    def test_605_the_holder_ceases_and_nobody_wishes(self):
        turns = Turns()
        self.go(turns, [3], {}, 3, [3])
        self.go(turns, [], {}, None, [])
        self.go(turns, [], {}, None, [])
        self.go(turns, [2, 3, 4], {}, 4, [4])

    def test_605_the_ring_goes_on_behind_the_one_it_was_dealt_to_last(self):
        turns = Turns()
        self.go(turns, [4], {}, 4, [4])
        self.go(turns, [2, 5], {}, 5, [5])
        self.go(turns, [2, 4], {}, 2, [2])
        self.go(turns, [2, 3], {}, None, [2])

    def test_605_a_neighbour_that_left_is_behind_itself_in_the_ring(self):
        turns = Turns()
        self.go(turns, [1, 2, 3], {}, 1, [1])
        self.assertIsNone(turns.leave(1))
        self.assertEqual(turns.served(), [])
        self.go(turns, [1, 2, 3], {}, 2, [2])
        turns.leave(2)
        self.go(turns, [1, 3], {}, 3, [3])
        turns.leave(3)
        self.go(turns, [3], {}, 3, [3])
        turns.leave(3)
        self.go(turns, [1, 2], {}, 1, [1])

    def test_605_who_left_and_came_back_in_one_tick_is_dealt_to_in_turn(self):
        turns = Turns()
        self.go(turns, [1, 2], {}, 1, [1])
        turns.leave(1)
        self.go(turns, [1, 2], {}, 2, [2])

    def test_605_the_slot_of_one_that_left_is_dealt_with_its_full_time(self):
        turns = Turns()
        self.go(turns, [1, 2], {}, 1, [1])
        self.go(turns, [1, 2], {}, None, [1])
        turns.leave(1)
        self.go(turns, [2], {}, 2, [2])
        for _ in range(TURN - 1):
            self.go(turns, [1, 2], {}, None, [2])
        self.go(turns, [1, 2], {}, 1, [1])

    def test_605_one_without_a_slot_leaves(self):
        turns = Turns()
        self.go(turns, [1, 2], {}, 1, [1])
        turns.leave(2)
        turns.leave(99)
        self.assertEqual(turns.served(), [1])
        self.go(turns, [1], {}, None, [1])


class Rewards(TurnCase):
    def test_605_those_that_gave_most(self):
        self.go(Turns(), [1, 2, 3, 4], {2: 1, 3: 5, 4: 2}, 1, [1, 3, 4])
        self.go(Turns(), [1, 2, 3, 4], {2: 9, 3: 5, 4: 2}, 1, [1, 2, 3])

    def test_605_of_equals_the_lesser_numbers(self):
        self.go(Turns(), [1, 2, 3, 4], {2: 3, 3: 3, 4: 3}, 1, [1, 2, 3])
        self.go(Turns(), [1, 2, 3, 4, 5], {2: 1, 3: 2, 4: 2, 5: 2}, 1, [1, 3, 4])
        self.go(Turns(), [1, 2, 3, 4, 5], {2: 2, 3: 2, 4: 1, 5: 3}, 1, [1, 2, 5])

    def test_605_none_to_those_that_gave_nothing(self):
        self.go(Turns(), [1, 2, 3], {}, 1, [1])
        self.go(Turns(), [1, 2, 3], {2: 0, 3: 0}, 1, [1])
        self.go(Turns(), [1, 2, 3], {2: 0, 3: 1}, 1, [1, 3])

    def test_605_the_holder_has_no_reward_and_others_have_it(self):
        self.go(Turns(), [1, 2, 3, 4], {1: 9, 2: 1, 3: 2, 4: 3}, 1, [1, 3, 4])
        self.go(Turns(), [1, 2], {1: 9}, 1, [1])

    def test_605_only_those_that_wish(self):
        self.go(Turns(), [1, 3], {2: 9, 3: 1, 4: 8}, 1, [1, 3])
        self.go(Turns(), [], {2: 9}, None, [])

    def test_605_rewards_are_given_anew_with_each_dealing_only(self):
        turns = Turns()
        self.go(turns, [1, 2, 3, 4], {3: 1}, 1, [1, 3])
        self.go(turns, [1, 2, 3, 4], {2: 9, 4: 9}, None, [1, 3])
        # One with a reward that ceases to wish keeps it until then.
        self.go(turns, [1, 2, 4], {2: 9, 4: 9}, None, [1, 3])
        for _ in range(TURN - 3):
            self.go(turns, [1, 2, 3, 4], {2: 9, 4: 9}, None, [1, 3])
        self.go(turns, [1, 2, 3, 4], {2: 9, 4: 9}, 2, [2, 4])
        self.go(turns, [1, 3, 4], {}, 3, [3])

    def test_605_nobody_is_dealt_to_and_nobody_is_rewarded(self):
        turns = Turns()
        self.go(turns, [1, 2], {2: 1}, 1, [1, 2])
        self.go(turns, [], {2: 1}, None, [])

    def test_605_one_with_a_reward_leaves(self):
        turns = Turns()
        self.go(turns, [1, 2, 3], {2: 1, 3: 1}, 1, [1, 2, 3])
        turns.leave(2)
        self.assertEqual(turns.served(), [1, 3])
        self.go(turns, [1, 2, 3], {2: 5, 3: 1}, None, [1, 3])
        turns.leave(1)
        self.assertEqual(turns.served(), [3])
        self.go(turns, [2, 3], {2: 5, 3: 1}, 2, [2, 3])


class Lists(TurnCase):
    def test_605_served_gives_a_new_list(self):
        turns = Turns()
        turns.step([1, 2], {2: 1})
        found = turns.served()
        self.assertIsInstance(found, list)
        found.append(9)
        self.assertEqual(turns.served(), [1, 2])

    def test_100_later_changes_to_what_was_handed_in_have_no_effect(self):
        turns = Turns()
        wishing, given = [1, 2, 3], {2: 1}
        turns.step(wishing, given)
        wishing.clear()
        given[3] = 99
        self.assertEqual(turns.served(), [1, 2])
        self.go(turns, [1, 2, 3], {}, None, [1, 2])

    def test_two_objects(self):
        one, other = Turns(), Turns()
        one.step([1], {})
        self.assertEqual(other.served(), [])
        self.assertEqual(other.step([1, 2], {}), 1)


class Drawn(TurnCase):
    def test_605_rounds_of_neighbours_that_come_go_and_give(self):
        chance = random.Random(605)
        for _ in range(150):
            turns, due = Turns(), Told()
            there = list(range(chance.randrange(7)))
            rate = chance.choice((0.2, 0.6, 0.95))
            for _ in range(60):
                wishing = [number for number in there if chance.random() < rate]
                given = {number: chance.randrange(4) for number in there if chance.random() < 0.5}
                self.go(turns, wishing, given, due.step(wishing, given), due.served())
                if chance.randrange(4) == 0:
                    number = chance.randrange(8)
                    turns.leave(number)
                    due.leave(number)
                    self.assertEqual(turns.served(), due.served())

    def test_707_nobody_that_goes_on_wishing_waits_long(self):
        chance = random.Random(707)
        for _ in range(100):
            turns, count = Turns(), chance.randrange(1, 7)
            since = 0
            for tick in range(80):
                wishing = sorted({0} | {number for number in range(count) if chance.random() < 0.7})
                if turns.step(wishing, {number: chance.randrange(3) for number in wishing}) == 0:
                    since = tick
                self.assertLessEqual(tick - since, TURN * count)


if __name__ == "__main__":
    unittest.main()

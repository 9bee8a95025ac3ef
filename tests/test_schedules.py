"""Points 700, 703 and 705, and the heading swarmwhole/schedules.py of the interface."""

import unittest

from swarmwhole.errors import BadSchedule, BadSwarm
from swarmwhole.schedules import check_schedule, check_world, is_event
from tests.helpers import ANY_VALUES, Unchanged

EVENTS = (
    ("join", 0, 1), ("cut", 3, 8), ("flow", 1, 0, 5), ("flow", 0, 1, 0), ("flow", 2, 7, None),
    ("forge", 4, 1, ()), ("forge", 0, 9, (0, 1, 255)), ("arm", 1, 0, ()), ("arm", 0, 12, (0, 3, 1000)),
    ("fall", 2, ()), ("fall", 0, (5, 0)), ("rise", 0), ("rise", 10 ** 12),
)
# What stands in place of a number, of octets and of what is kept, and is none.
NO_NUMBERS = (-1, True, False, None, 1.0, "1", (), (1,), [1])
NO_OCTETS = (None, 3, "ab", [1, 2], (256,), (-1,), (True,), (1.0,), ("a",), (None,))
NO_KEPT = (None, 3, "ab", [1, 2], (-1,), (True,), (1.0,), ("a",), (None,), ((1,),))


class Events(unittest.TestCase):
    def yes(self, *values):
        for value in values:
            with self.subTest(value), Unchanged(self, value):
                self.assertIs(is_event(value), True)

    def no(self, *values):
        for value in values:
            with self.subTest(value), Unchanged(self, value):
                self.assertIs(is_event(value), False)

    def test_703_each_kind(self):
        self.yes(*EVENTS)

    def test_703_an_item_more_or_less(self):
        for event in EVENTS:
            self.no(event[:-1], event + (0,), event + (None,), event + ((),), event[:1], list(event), event[1:])

    def test_703_numbers(self):
        for wrong in NO_NUMBERS:
            self.no(("join", wrong, 1), ("join", 0, wrong), ("cut", wrong, 1), ("cut", 0, wrong), ("rise", wrong),
                    ("flow", wrong, 1, 2), ("flow", 0, wrong, 2), ("forge", wrong, 1, ()), ("forge", 0, wrong, ()),
                    ("arm", wrong, 1, ()), ("arm", 0, wrong, ()), ("fall", wrong, ()))
            if wrong is not None:
                self.no(("flow", 0, 1, wrong))

    def test_703_octets(self):
        for wrong in NO_OCTETS:
            self.no(("forge", 0, 1, wrong))
        self.yes(("forge", 0, 1, tuple(range(256))))

    def test_703_kept(self):
        for wrong in NO_KEPT:
            self.no(("arm", 0, 1, wrong), ("fall", 0, wrong))
        self.yes(("arm", 0, 1, (256, 10 ** 6)), ("fall", 0, (0,) * 50))

    def test_703_none_stands_for_a_count_only(self):
        self.no(("arm", 0, None, ()), ("forge", 0, 1, None), ("fall", 0, None), ("rise", None), ("join", None, None))

    def test_703_items_of_other_kinds_of_events(self):
        self.no(("flow", 0, 1, (1,)), ("forge", 0, 1, 5), ("arm", 0, (), 1), ("fall", (), 0), ("join", 0, ()))

    def test_703_other_words_and_values(self):
        self.no(*ANY_VALUES, ("",), ("Join", 0, 1), ("leave", 0, 1), (0, 1), (None, 0, 1), (("join",), 0, 1),
                ("rise", 1, 2),
                (["join"], 0, 1), ({}, 0), ("number", 0), b"rise", ("join", 0, 1, 2))

    def test_703_in_join_and_cut_the_lesser_number_stands_first(self):
        for word in ("join", "cut"):
            self.no((word, 3, 0), (word, 1, 0), (word, 2, 2), (word, 0, 0), (word, 10 ** 12 + 1, 10 ** 12))
            self.yes((word, 0, 3), (word, 0, 1), (word, 7, 8), (word, 10 ** 12, 10 ** 12 + 1))

    def test_703_in_the_other_events_numbers_stand_in_any_order(self):
        self.yes(("flow", 3, 0, None), ("flow", 3, 3, 2), ("flow", 0, 3, 1), ("forge", 3, 0, (1, 255)),
                 ("forge", 3, 3, ()), ("arm", 3, 0, (3,)), ("arm", 0, 0, ()), ("fall", 3, (0,)))


class Schedules(unittest.TestCase):
    def bad(self, value, tick):
        with self.subTest(value), Unchanged(self, value), self.assertRaises(BadSchedule) as caught:
            check_schedule(value)
        self.assertEqual(caught.exception.tick, tick)

    def test_705_tuples_of_tuples_of_events(self):
        for schedule in ((), ((),), ((), (), ()), (EVENTS,), tuple((event,) for event in EVENTS), (EVENTS, (), EVENTS)):
            with Unchanged(self, schedule):
                self.assertIsNone(check_schedule(schedule))

    def test_705_no_tuple(self):
        for value in ANY_VALUES:
            if not isinstance(value, tuple):
                self.bad(value, -1)
        self.bad([], -1)
        self.bad([()], -1)
        self.bad([(("rise", 0),)], -1)

    def test_705_the_first_tick_that_is_wrong(self):
        right = (("rise", 0),)
        for wrong in (None, [], 5, "", ("rise", 0), [("rise", 0)], (("rise", -1),), (("rise", 0), ("rise",)), (None,),
                      ((),),
                      (["rise", 0],), right + (7,), True, 1.5):
            self.bad((wrong,), 0)
            self.bad((right, (), wrong), 2)
            self.bad((right, wrong, (), wrong, None), 1)
        self.bad(((), [], None), 1)
        self.bad(right, 0)

    def test_703_a_join_or_cut_in_the_wrong_order(self):
        right = (("rise", 1),)
        for wrong in (("join", 3, 0), ("cut", 1, 0), ("join", 2, 2), ("cut", 4, 4)):
            self.bad((right, (("rise", 1), wrong)), 1)
            self.bad(((wrong,), right, (wrong,)), 0)
        self.assertIsNone(check_schedule((right, (("rise", 1), ("join", 0, 3), ("cut", 1, 4)))))


class Worlds(unittest.TestCase):
    def right(self, *worlds, count=5):
        for world in worlds:
            with self.subTest(world), Unchanged(self, world):
                self.assertIsNone(check_world(world, count))

    def wrong(self, *worlds, count=5):
        for world in worlds:
            with self.subTest(world), Unchanged(self, world):
                self.assertRaises(BadSwarm, check_world, world, count)

    def test_700_worlds(self):
        self.right(((), (), ()), (((0, ()),), (), ()),
                   (((0, (0, 1, 2, 3, 4)), (7, (4,))), (3, 9), ((0, 3), (0, 7), (3, 7))),
                   ((), (0, 1), ((0, 1),)), (((10 ** 12, (2, 3)),), (5,), ((5, 10 ** 12),)))
        self.right((((0, (0,)),), (), ()), count=1)
        self.right((((0, (4095,)),), (), ()), count=4096)

    def test_700_other_forms(self):
        self.wrong(*ANY_VALUES, ((), ()), ((), (), (), ()), [(), (), ()], ([], (), ()), ((), [], ()), ((), (), []),
                   (None, (), ()), ((), None, ()), ((), (), None), (5, (), ()), ((), 5, ()), ((), (), 5), ("", (), ()))

    def test_700_the_honest(self):
        for item in (None, 5, (), (1,), (1, (), ()), [1, ()], (1, []), (1, None), (1, 0), (-1, ()), (True, ()),
                     (1.0, ()),
                     ("1", ()), (None, ()), ((), 1), ((1,), ())):
            self.wrong(((item,), (), ()), (((0, ()), item), (), ()))

    def test_700_their_pieces(self):
        for pieces in ((5,), (-1,), (0, 0), (1, 0), (0, 2, 1), (True,), (0, True), (1.0,), ("0",), (None,), ((0,),),
                       (0, 5)):
            self.wrong((((1, pieces),), (), ()))
        self.wrong((((1, (1,)),), (), ()), count=1)
        self.right((((1, (4,)), (2, (0, 4))), (), ()))

    def test_700_forgers(self):
        for forgers in ((-1,), (True,), (1.0,), ("1",), (None,), ((1,),), (1, 1), (2, 1), (0, 3, 2), (0, [1])):
            self.wrong(((), forgers, ()))

    def test_700_order_and_doubles(self):
        self.wrong((((1, ()), (0, ())), (), ()), (((1, ()), (1, ())), (), ()), (((1, (0,)), (1, (1,))), (), ()),
                   (((1, (1,)), (1, (0,))), (), ()), (((0, ()), (2, ()), (1, ())), (), ()))

    def test_700_no_number_is_honest_and_a_forger(self):
        self.wrong((((1, ()),), (1,), ()), (((0, ()), (2, ())), (1, 2), ()), (((0, ()),), (0, 1), ((0, 1),)))

    def test_700_pairs(self):
        world = (((0, ()), (1, ()), (2, ())), (3, 4))
        self.right(world + ((),), world + (((0, 1),),), world + (((0, 4), (1, 2), (1, 3), (3, 4)),))
        for pair in (None, 0, (), (0,), (0, 1, 2), [0, 1], (1, 0), (1, 1), (0, 5), (5, 6), (-1, 0), (False, 1),
                     (0, True),
                     (0.0, 1), ("0", "1"), (None, 1), ((0,), (1,)), "01"):
            self.wrong(world + ((pair,),), world + (((0, 1), pair),), world + ((pair, (3, 4)),))
        self.wrong((((2, ()), (4, ())), (6,), ((1, 2),)), (((2, ()), (4, ())), (6,), ((2, 3),)),
                   (((2, ()),), (6,), ((5, 6),)))
        self.wrong(world + (((0, 1), (0, 1)),), world + (((0, 2), (0, 1)),), world + (((1, 2), (0, 3)),),
                   world + (((0, 1), (1, 2), (0, 2)),), world + ([(0, 1)],))


if __name__ == "__main__":
    unittest.main()

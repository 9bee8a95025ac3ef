"""Points 900 and 901, and what swarmwhole/cases.py checks."""

import itertools
import unittest
from unittest import mock

from swarmwhole.cases import case_text, check_case, parse_case
from swarmwhole.errors import BadCase
from swarmwhole.reports import report
from tests.casework import EVENTS, FILES, WORLD, case
from tests.helpers import ANY_VALUES, Unchanged, told
from tests.samples import NAME, SHA, SUMS, files_of, path

MOST = 10 ** 9
# Items of a case that are wrong, by the reason.
WRONG = {
    "content": {"name": ()}, "world": {"world": ((), ())}, "schedule": {"schedule": None}, "quiet": {"quiet": -1},
}
# What stands in place of an integer and is none, or is too small.
NO_NUMBERS = (-1, True, False, None, 1.0, "1", (), (1,), [1])


class CaseCase(unittest.TestCase):
    def right(self, *cases):
        for value in cases:
            with self.subTest(value), Unchanged(self, value):
                self.assertIsNone(check_case(value))

    def wrong(self, reason, *cases):
        for value in cases:
            with self.subTest(value), Unchanged(self, value):
                self.assertEqual(told(check_case, value), (BadCase, reason))


class Cases(CaseCase):
    def test_900_cases(self):
        self.right(case(), case(kind=SHA), *[case(kind=kind) for kind in SUMS], case(schedule=()), case(schedule=((),)),
                   case(world=((), (), ())), case(files=files_of(3), world=(((0, (0,)),), (), ())))

    def test_901_form(self):
        whole = case()
        self.wrong("form", *ANY_VALUES, whole[:6], whole + (0,), whole + (None,), list(whole), (whole,), (), "abcdefg",
                   {place: item for place, item in enumerate(whole)})

    def test_901_form_with_any_items(self):
        for value in ANY_VALUES:
            self.wrong("form", (value,) * 6, (value,) * 8, [value] * 7)
            self.wrong("content", (value,) * 7)

    def test_901_content(self):
        one = ((path("a"), (1, 2)),)
        self.wrong("content", *[case(**{item: value}) for value in ANY_VALUES for item in ("name", "kind", "files")],
                   case(name=(65,)), case(name=list(NAME)), case(kind=("sum", 9)), case(kind=["sum", 2]),
                   case(kind=("sha", 2)), case(kind=("sum", True)), case(size=5), case(size=2), case(size=None),
                   case(size=4.0), case(files=list(FILES)), case(files=one + one), case(files=((path("a"), 3),)),
                   case(files=((path("a"), (1, 256)),)), case(files=((path("a"), [1]),)), case(files=((path("a"),),)),
                   case(files=(one[0] + (3,),)), case(files=(list(one[0]),)), case(files=((path("A"), (1,)),)),
                   case(files=((path("a"), ()),)), case(files=((path("a"), (0,) * 16385),)),
                   case(files=one + ((path("a/b"), ()),)))

    def test_901_the_content_is_told_before_any_digest_is_made(self):
        with mock.patch("swarmwhole.digests.Hasher.digest", side_effect=AssertionError("a digest")):
            self.wrong("content", case(files=()), case(name=()))

    def test_901_worlds(self):
        self.wrong("world", *[case(world=value) for value in ANY_VALUES], case(world=list(WORLD)),
                   case(world=WORLD[:2]), case(world=WORLD + ((),)), case(world=(list(WORLD[0]), *WORLD[1:])),
                   case(world=(WORLD[0], [3, 7], ())), case(world=(((1, [0]),), (), ())),
                   case(world=((), (), ([0, 1],))))

    def test_901_pieces_that_there_are_not(self):
        def world(index):
            return (((1, (index,)),), (), ())
        self.right(case(world=world(4)))
        self.wrong("world", case(world=world(5)), case(world=world(-1)), case(world=world(MOST)),
                   case(world=world(True)))
        # How many there are is told by the lengths and the size.
        self.right(case(size=8, world=world(2)), case(files=files_of(24), world=world(5)))
        self.wrong("world", case(size=8, world=world(3)), case(files=files_of(16), world=world(4)))

    def test_901_strangers(self):
        honest, liars, _ = WORLD
        self.right(case(world=(honest, liars, ((1, 7),))))
        self.wrong("world", case(world=(honest, liars, ((1, 8),))), case(world=(honest, liars, ((0, 1),))),
                   case(world=(honest, (), ((1, 7),))), case(world=(honest, (1,), ())),
                   case(world=(honest, liars, ((2, 1),))))

    def test_900_integers_of_worlds_that_are_too_great(self):
        def worlds(number):
            return (
                (((number, ()),), (), ()), (((1, ()), (number, (0,))), (), ()), ((), (number,), ()),
                ((), (1, number), ((1, number),)), (((number - 1, ()), (number, ())), (), ((number - 1, number),)),
                (((5, ()),), (number,), ((5, number),)),
            )
        self.right(*[case(world=world) for world in worlds(MOST)])
        self.wrong("world", *[case(world=world) for world in worlds(MOST + 1)],
                   *[case(world=world) for world in worlds(10 ** 700)])

    def test_901_schedules(self):
        self.wrong("schedule", *[case(schedule=value) for value in ANY_VALUES if value != () and value != ((),)],
                   case(schedule=list(EVENTS)), case(schedule=EVENTS + (None,)), case(schedule=EVENTS + ([],)),
                   case(schedule=(list(EVENTS[0]),)), case(schedule=EVENTS[0]), case(schedule=((["rise", 1],),)),
                   case(schedule=((("rise",),),)), case(schedule=((("rise", 1, 1),),)),
                   case(schedule=((("sink", 1),),)), case(schedule=((), (), 5)))

    def test_901_joins_and_cuts_in_the_wrong_order(self):
        for word in ("join", "cut"):
            self.right(case(schedule=(((word, 1, 2),),)), case(schedule=(((word, 50, 60),),)))
            self.wrong("schedule", case(schedule=(((word, 2, 1),),)), case(schedule=((), ((word, 2, 2),))))

    def numbers(self, number):
        """Schedules with a number at each place where an integer stands that may be great."""
        events = (
            ("join", 0, number), ("cut", 0, number), ("flow", number, 1, None), ("flow", 1, number, None),
            ("flow", 1, 2, number), ("forge", number, 2, ()), ("forge", 3, number, (1, 2)), ("arm", number, 0, ()),
            ("arm", 1, number, ()), ("arm", 1, 0, (number,)), ("arm", 1, 0, (0, 2, number)), ("fall", number, ()),
            ("fall", 1, (number,)), ("fall", 1, (number, 3)), ("rise", number),
        )
        return [case(schedule=((("rise", 1),), (("rise", 2), event))) for event in events]

    def test_900_integers_of_schedules_that_are_too_great(self):
        self.right(*self.numbers(MOST), case(schedule=((("join", MOST - 1, MOST), ("cut", MOST - 1, MOST)),)))
        self.wrong("schedule", *self.numbers(MOST + 1), *self.numbers(10 ** 700),
                   case(schedule=((("join", MOST, MOST + 1),),)), case(schedule=((("cut", MOST + 1, MOST + 2),),)))

    def test_901_what_is_no_integer_in_a_schedule(self):
        for number in NO_NUMBERS:
            self.wrong("schedule", *[value for value in self.numbers(number)
                                     if number is not None or value[5][1][1][:3] != ("flow", 1, 2)])

    def test_901_octets_of_a_schedule(self):
        def schedule(octet):
            return ((("forge", 3, 2, (0, octet)),),)
        self.right(case(schedule=schedule(255)))
        self.wrong("schedule", *[case(schedule=schedule(octet)) for octet in (256, MOST, MOST + 1, -1, True, None)])

    def test_901_quiet(self):
        self.right(*[case(quiet=quiet) for quiet in (0, 1, 999, 1000)])
        self.wrong("quiet", *[case(quiet=quiet) for quiet in (
            -1, 1001, 10 ** 9, -10 ** 700, 10 ** 700, True, False, None, 1.0, 0.5, "3", "", (), (3,), [3])])

    def test_901_the_first_reason_that_applies(self):
        for first, second in itertools.combinations(WRONG, 2):
            self.wrong(first, case(**WRONG[first]), case(**WRONG[first], **WRONG[second]))
        for items in itertools.combinations(WRONG, 3):
            self.wrong(items[0], case(**{name: value for item in items for name, value in WRONG[item].items()}))
        wrong = case(**{name: value for item in WRONG.values() for name, value in item.items()})
        self.wrong("content", wrong)
        self.wrong("form", wrong[:6], wrong + (1,), list(wrong))

    def test_901_too_great_integers_are_told_in_this_order_too(self):
        great = {"world": ((), (MOST + 1,), ()), "schedule": ((("rise", MOST + 1),),), "quiet": 1001}
        self.wrong("world", case(**great), case(world=great["world"]), case(world=great["world"], schedule=None))
        self.wrong("schedule", case(schedule=great["schedule"], quiet=1001), case(schedule=great["schedule"]))
        # A world with pieces that there are not is told even if the content is small for all that follows.
        self.wrong("world", case(files=files_of(3), schedule=great["schedule"], quiet=None))

    def test_901_the_other_functions_raise_the_same(self):
        for value in (*ANY_VALUES, list(case()), case()[:6]):
            self.assertEqual(told(case_text, value), (BadCase, "form"))
            self.assertEqual(told(report, value), (BadCase, "form"))
        for reason, items in WRONG.items():
            for function in (case_text, report):
                with Unchanged(self, case(**items)):
                    self.assertEqual(told(function, case(**items)), (BadCase, reason))

    def test_900_a_case_is_the_one_of_its_text(self):
        self.assertEqual(parse_case(case_text(case())), case())


if __name__ == "__main__":
    unittest.main()

"""Points 902 and 903, and the texts of swarmwhole/cases.py."""

import itertools
import random
import unittest

from swarmwhole.cases import case_text, check_case, parse_case
from swarmwhole.errors import BadCase
from swarmwhole.values import decode, encode
from tests.casework import EVENTS, FILES, case
from tests.drawn import Liar, draw_events, draw_world
from tests.helpers import ANY_VALUES, Unchanged, octets, told
from tests.samples import NAME, SHA, SUMS, Sample, files_of, path

KEYS = ("files", "kind", "name", "quiet", "schedule", "size", "world")
NOTHING, NUMBER, SOME, EMPTY = ("dict", ()), ("int", 1), ("octets", (97,)), ("list", ())


def listed(*items):
    return ("list", tuple(items))


def word(text):
    return ("octets", octets(text))


def numbers(*items):
    return listed(*[("int", item) for item in items])


def value_of(whole=None, **items):
    """The value of a case with other items; without those that are None."""
    pairs = dict(decode(case_text(case() if whole is None else whole))[1])
    for key, item in items.items():
        pairs[octets(key)] = item
    return ("dict", tuple(sorted((key, item) for key, item in pairs.items() if item is not None)))


def with_event(*items):
    """The text of a case with one event more, as a list of values."""
    return encode(value_of(schedule=listed(EMPTY, listed(listed(word("rise"), ("int", 1)), listed(*items)))))


class Texts(unittest.TestCase):
    def test_902_a_text_written_out(self):
        given = case(
            name=octets("it"), kind=("sum", 2), size=8, files=((path("a/b"), (1, 2, 255)), (path("c"), ())),
            world=(((0, (0,)), (2, ())), (5,), ((0, 2), (2, 5))),
            schedule=((("join", 0, 2), ("rise", 2)), (), (("flow", 0, 2, None), ("flow", 2, 0, 0))), quiet=12)
        due = ("{o5:files[[[o1:ao1:b]o3:\x01\x02\xff][[o1:c]o0:]]o4:kind[o3:sumn2;]o4:nameo2:ito5:quietn12;"
               "o8:schedule[[[o4:joinn0;n2;][o4:risen2;]][][[o4:flown0;n2;{}][o4:flown2;n0;n0;]]]o4:sizen8;"
               "o5:world[[[n0;[n0;]][n2;[]]][n5;][[n0;n2;][n2;n5;]]]}")
        with Unchanged(self, given):
            self.assertEqual(case_text(given), octets(due))
        self.assertEqual(parse_case(octets(due)), given)

    def test_902_each_event(self):
        for event, due in (
            (("join", 1, 20), "[o4:joinn1;n20;]"), (("cut", 0, 2), "[o3:cutn0;n2;]"),
            (("flow", 3, 1, None), "[o4:flown3;n1;{}]"), (("flow", 1, 3, 0), "[o4:flown1;n3;n0;]"),
            (("flow", 1, 3, 70), "[o4:flown1;n3;n70;]"), (("forge", 3, 2, ()), "[o5:forgen3;n2;o0:]"),
            (("forge", 3, 2, (1, 2)), "[o5:forgen3;n2;o2:\x01\x02]"), (("arm", 1, 0, ()), "[o3:armn1;n0;[]]"),
            (("arm", 1, 2, (3, 0)), "[o3:armn1;n2;[n3;n0;]]"), (("fall", 4, ()), "[o4:falln4;[]]"),
            (("fall", 4, (0, 5)), "[o4:falln4;[n0;n5;]]"), (("rise", 10 ** 9), "[o4:risen1000000000;]"),
        ):
            with self.subTest(event):
                text = case_text(case(schedule=((event,),)))
                self.assertIn("o8:schedule[[" + due + "]]o4:size", "".join(map(chr, text)))
                self.assertEqual(parse_case(text)[5], ((event,),))

    def test_902_empty_parts(self):
        for given, due in (
            (case(schedule=()), "o8:schedule[]o4:size"), (case(schedule=((), ())), "o8:schedule[[][]]o4:size"),
            (case(world=((), (), ())), "o5:world[[][][]]}"), (case(quiet=0), "o5:quietn0;"),
            (case(files=((path("a"), ()), (path("b"), (7,))), world=((), (), ())),
             "o5:files[[[o1:a]o0:][[o1:b]o1:\x07]]"),
        ):
            text = case_text(given)
            self.assertIn(due, "".join(map(chr, text)))
            self.assertEqual(parse_case(text), given)

    def test_902_the_keys(self):
        self.assertEqual([key for key, _ in decode(case_text(case()))[1]], [octets(key) for key in KEYS])

    def test_903_there_and_back(self):
        for given in (case(), case(kind=SHA), *[case(kind=kind) for kind in SUMS], case(quiet=1000), case(schedule=()),
                      *[case(schedule=(events,)) for events in EVENTS],
                      case(files=files_of(0, 3, 0), world=((), (), ())),
                      case(files=tuple((path("/".join("abcdefgh"[:place + 1]) + f"x{place}"), (place,) * place)
                                       for place in range(8)), world=((), (), ()))):
            with Unchanged(self, given):
                text = case_text(given)
            with Unchanged(self, text):
                found = parse_case(text)
            self.assertEqual(repr(found), repr(given))
            self.assertEqual(case_text(found), text)

    def test_903_drawn_cases_there_and_back(self):
        for seed in range(40):
            chance = random.Random(seed)
            sample = Sample(9, 0, 10)
            world = draw_world(chance, 5, seed % 4)
            liar = Liar(chance, sample)
            schedule = tuple(draw_events(chance, world, liar) for _ in range(chance.randrange(12)))
            given = (NAME, ("sum", 2), 4, FILES, world, schedule, chance.randrange(1001))
            self.assertIsNone(check_case(given))
            self.assertEqual(repr(parse_case(case_text(given))), repr(given))


class Wrong(unittest.TestCase):
    def text(self, *values):
        """All of these values are of another form."""
        for value in values:
            with self.subTest(value):
                self.assertEqual(told(parse_case, encode(value)), (BadCase, "text"))

    def reason(self, reason, *texts):
        for given in texts:
            with self.subTest(given), Unchanged(self, given):
                self.assertEqual(told(parse_case, given), (BadCase, reason))

    def test_903_what_is_not_octets(self):
        text = case_text(case())
        self.reason("text", *ANY_VALUES, list(text), "".join(map(chr, text)), case(), text[:-1] + (True,),
                    text + (256,), (None,) + text)

    def test_903_no_text_of_a_value(self):
        text = case_text(case())
        self.reason("text", text[:-1], text[1:], text + (0,), text + text, (32,) + text, octets("{"), octets("n01;"))
        for place in range(0, len(text), 7):
            self.reason("text", text[:place])

    def test_903_each_changed_octet(self):
        text = case_text(case(files=((path("a"), (3, 4)),), world=(((1, (0,)),), (), ()), schedule=(EVENTS[2],)))
        for place in range(len(text)):
            for octet in {text[place] ^ 1, (text[place] + 1) % 256, 48, 57, 59, 93, 110} - {text[place]}:
                changed = text[:place] + (octet,) + text[place + 1:]
                try:
                    found = parse_case(changed)
                except BadCase:
                    continue
                self.assertEqual(case_text(found), changed)

    def test_903_other_values(self):
        self.text(NUMBER, SOME, EMPTY, NOTHING, listed(value_of()), listed(*[item for _, item in value_of()[1]]))

    def test_903_keys(self):
        for key in KEYS:
            self.text(value_of(**{key: None}), value_of(**{key: None, key.upper(): NUMBER}),
                      value_of(**{key: None, key + "s": dict(value_of()[1])[octets(key)]}))
        self.text(value_of(more=NUMBER), value_of(a=NUMBER), value_of(zebra=NOTHING), value_of(error=SOME))

    def test_903_keys_in_another_order(self):
        text = "".join(map(chr, case_text(case())))
        name = "o4:nameo17:" + "".join(map(chr, NAME))
        self.assertIn(name, text)
        self.reason("text", octets("{" + name + text.replace(name, "")[1:]))

    def test_903_items_of_another_form(self):
        self.text(*[value_of(name=item) for item in (NUMBER, EMPTY, NOTHING, listed(SOME))],
                  *[value_of(**{key: item}) for key in ("size", "quiet") for item in (SOME, EMPTY, NOTHING)],
                  *[value_of(kind=item) for item in (
                      NUMBER, SOME, EMPTY, NOTHING, listed(SOME), listed(NUMBER, SOME), listed(SOME, SOME),
                      listed(SOME, NUMBER, NUMBER), listed(EMPTY, NUMBER))])

    def test_903_files_of_another_form(self):
        where = listed(SOME)
        self.text(*[value_of(files=item) for item in (
            NUMBER, SOME, NOTHING, listed(NUMBER), listed(SOME), listed(EMPTY), listed(listed(where)),
            listed(listed(where, NUMBER)), listed(listed(where, EMPTY)), listed(listed(where, NOTHING)),
            listed(listed(SOME, SOME)), listed(listed(where, SOME, SOME)), listed(listed(SOME, where)),
            listed(listed(listed(NUMBER), SOME)), listed(listed(listed(EMPTY), SOME)),
            listed(listed(where, SOME), SOME))])

    def test_903_worlds_of_another_form(self):
        one = listed(NUMBER, numbers(0))
        self.text(*[value_of(world=item) for item in (
            NUMBER, SOME, NOTHING, EMPTY, listed(EMPTY), listed(EMPTY, EMPTY), listed(EMPTY, EMPTY, EMPTY, EMPTY),
            listed(NUMBER, EMPTY, EMPTY), listed(EMPTY, SOME, EMPTY), listed(EMPTY, EMPTY, NOTHING),
            listed(SOME, EMPTY, EMPTY), listed(listed(NUMBER), EMPTY, EMPTY), listed(numbers(1, 0), EMPTY, EMPTY),
            listed(listed(listed(NUMBER)), EMPTY, EMPTY), listed(listed(listed(NUMBER, NUMBER)), EMPTY, EMPTY),
            listed(listed(listed(SOME, numbers(0))), EMPTY, EMPTY), listed(listed(listed(NUMBER, SOME)), EMPTY, EMPTY),
            listed(listed(listed(NUMBER, listed(SOME))), EMPTY, EMPTY),
            listed(listed(listed(NUMBER, numbers(0), NUMBER)), EMPTY, EMPTY), listed(listed(one, NUMBER), EMPTY, EMPTY),
            listed(EMPTY, listed(SOME), EMPTY), listed(EMPTY, listed(numbers(1)), EMPTY),
            listed(EMPTY, EMPTY, numbers(1)), listed(EMPTY, EMPTY, listed(numbers(1))),
            listed(EMPTY, EMPTY, listed(numbers(1, 2, 3))), listed(EMPTY, EMPTY, listed(EMPTY)),
            listed(EMPTY, EMPTY, listed(listed(NUMBER, SOME))), listed(EMPTY, EMPTY, listed(SOME)))])

    def test_903_schedules_of_another_form(self):
        self.text(*[value_of(schedule=item) for item in (
            NUMBER, SOME, NOTHING, listed(NUMBER), listed(SOME), listed(NOTHING), listed(EMPTY, listed(NUMBER)),
            listed(EMPTY, listed(SOME)), listed(listed(NOTHING)))])

    def test_903_events_of_another_form(self):
        rise = word("rise")
        self.reason("text", with_event(), with_event(NUMBER), with_event(EMPTY), with_event(NOTHING),
                    with_event(NUMBER, rise), with_event(listed(rise), NUMBER), with_event(numbers(1), NUMBER))

    def test_903_items_that_stand_in_no_event(self):
        table, deep = ("dict", (((97,), NUMBER),)), listed(numbers(1))
        for name in ("join", "cut", "flow", "forge", "arm", "fall", "rise", "", "sink", "Forge"):
            for item in (table, deep, listed(SOME), listed(NOTHING), listed(NUMBER, SOME)):
                self.reason("text", with_event(word(name), item), with_event(word(name), NUMBER, item),
                            with_event(word(name), item, NUMBER))

    def test_903_octets_stand_in_forge_only_and_lists_in_the_others(self):
        for name in ("join", "cut", "flow", "arm", "fall", "rise", "", "sink", "forg", "forges", "FORGE"):
            self.reason("text", with_event(word(name), SOME), with_event(word(name), NUMBER, NUMBER, SOME))
            self.reason("schedule", with_event(word(name), NUMBER, EMPTY, EMPTY),
                        with_event(word(name), NUMBER, NUMBER, NUMBER, numbers(1, 2)))
        self.reason("text", with_event(word("forge"), EMPTY), with_event(word("forge"), NUMBER, NUMBER, numbers(1)),
                    with_event(word("forge"), NUMBER, NUMBER, SOME, EMPTY))
        self.reason("schedule", with_event(word("forge"), SOME), with_event(word("forge"), SOME, SOME, SOME, NOTHING))

    def test_903_words_that_there_are_not(self):
        for given in ((), (0,), (255,), octets("sink"), octets("Join"), octets("%"), octets("number"), octets("ris")):
            name = ("octets", given)
            self.reason("schedule", with_event(name), with_event(name, NUMBER), with_event(name, NOTHING),
                        with_event(name, NUMBER, ("int", -3), numbers(-1, 10 ** 30), NOTHING))

    def test_903_events_with_other_items(self):
        for name in ("join", "cut", "flow", "forge", "arm", "fall", "rise"):
            self.reason("schedule", with_event(word(name)), with_event(word(name), NOTHING),
                        with_event(word(name), *[NUMBER] * 5), with_event(word(name), ("int", -1)))
        self.reason("schedule", with_event(word("join"), ("int", 2), NUMBER), with_event(word("cut"), NUMBER, NUMBER),
                    with_event(word("arm"), NUMBER, NOTHING, EMPTY),
                    with_event(word("arm"), NUMBER, NUMBER, numbers(-1)),
                    with_event(word("fall"), NUMBER, NUMBER), with_event(word("fall"), NUMBER, NOTHING),
                    with_event(word("flow"), NUMBER, NOTHING, NUMBER), with_event(word("rise"), ("int", 10 ** 9 + 1)))

    def test_903_the_right_form_and_a_wrong_case(self):
        where = listed(SOME)
        one = listed(where, SOME)
        wrong = (
            ({"name": ("octets", ())}, "content"), ({"name": ("octets", (65,))}, "content"),
            ({"kind": listed(SOME, NUMBER)}, "content"), ({"kind": listed(word("sum"), ("int", 9))}, "content"),
            ({"kind": listed(word(""), ("int", 2))}, "content"), ({"size": ("int", 5)}, "content"),
            ({"size": ("int", -4)}, "content"), ({"files": EMPTY}, "content"), ({"files": listed(one, one)}, "content"),
            ({"files": listed(listed(EMPTY, SOME))}, "content"),
            ({"files": listed(listed(where, word("")))}, "content"),
            ({"world": listed(listed(listed(NUMBER, numbers(5))), EMPTY, EMPTY)}, "world"),
            ({"world": listed(listed(listed(("int", -1), EMPTY)), EMPTY, EMPTY)}, "world"),
            ({"world": listed(EMPTY, numbers(2, 1), EMPTY)}, "world"),
            ({"world": listed(EMPTY, numbers(1), listed(numbers(1, 2)))}, "world"),
            ({"world": listed(EMPTY, numbers(10 ** 9 + 1), EMPTY)}, "world"),
            ({"schedule": listed(listed(listed(word("rise"), ("int", 10 ** 9 + 1))))}, "schedule"),
            ({"quiet": ("int", -1)}, "quiet"), ({"quiet": ("int", 1001)}, "quiet"),
            ({"quiet": ("int", 10 ** 599)}, "quiet"),
        )
        for items, reason in wrong:
            self.reason(reason, encode(value_of(**items)))
        order = ("content", "world", "schedule", "quiet")
        for (one, first), (two, second) in itertools.product(wrong, wrong):
            if not set(one) & set(two):
                due = min(first, second, key=order.index)
                self.reason(due, encode(value_of(**one, **two)))

    def test_903_another_form_comes_first(self):
        self.text(value_of(name=("octets", ()), quiet=SOME), value_of(world=EMPTY, size=("int", 5)),
                  value_of(quiet=("int", -1), schedule=listed(listed(EMPTY))))


if __name__ == "__main__":
    unittest.main()

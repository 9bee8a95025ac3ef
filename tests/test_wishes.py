"""Points 606 and 607 as far as they speak of what is wished and chosen, and swarmwhole/wishes.py of the interface."""

import itertools
import random
import unittest

from swarmwhole.wishes import choice, wanted
from tests.helpers import Unchanged


def flags(text):
    """Claims from a string: x stands for True."""
    return [character == "x" for character in text]


def chosen_as_told(claims, held, fields, asked):
    """Point 607, word by word."""
    found = None
    for others in (False, True):
        for index in reversed(range(len(claims))):
            if not claims[index] or index in held or (index in asked) != others:
                continue
            many = 0 if others else sum(1 for field in fields if field[index])
            if found is None or many <= found[0]:
                found = (many, index)
        if found is not None:
            return found[1]
    return None


class Wanted(unittest.TestCase):
    def check(self, claims, held, due):
        for one in (list(claims), tuple(claims)):
            for other in (list(held), tuple(held)):
                with Unchanged(self, one, other):
                    found = wanted(one, other)
                self.assertEqual(found, due)
                self.assertIsInstance(found, list)

    def test_606_what_is_claimed_and_not_held(self):
        self.check(flags("x.xx."), (), [0, 2, 3])
        self.check(flags("x.xx."), (2,), [0, 3])
        self.check(flags("x.xx."), (0, 2, 3), [])
        self.check(flags("x.xx."), (1, 4), [0, 2, 3])
        self.check(flags("xxxxx"), (4, 0), [1, 2, 3])
        self.check(flags("....."), (), [])
        self.check(flags("....."), (0, 1, 2, 3, 4), [])
        self.check(flags("x"), (), [0])
        self.check((), (), [])

    def test_606_all_claims_of_four_pieces(self):
        for claims in itertools.product((True, False), repeat=4):
            for count in range(5):
                for held in itertools.combinations(range(4), count):
                    self.check(claims, held, [k for k in range(4) if claims[k] and k not in held])

    def test_606_each_call_gives_a_new_list(self):
        claims = flags("xx")
        found = wanted(claims, ())
        found.append(9)
        self.assertEqual(wanted(claims, ()), [0, 1])


class Choice(unittest.TestCase):
    def check(self, claims, held, fields, asked, due):
        fields = [flags(field) for field in fields]
        for one in (flags(claims), tuple(flags(claims))):
            for other in (list(held), tuple(held)):
                with Unchanged(self, one, other, fields, asked):
                    self.assertEqual(choice(one, other, fields, asked), due)

    def test_607_nothing_to_choose(self):
        self.check("....", (), ["....", "xxxx"], [None], None)
        self.check("xx..", (0, 1), ["xx..", "xxxx"], [None], None)
        self.check("xx..", (1, 0, 3), ["xx..", "xxxx"], [2], None)

    def test_607_the_one_that_the_fewest_claim(self):
        self.check("xxxx", (), ["xxxx", "xx..", "x.x."], [None, None], 3)
        self.check("xxx.", (), ["xxx.", "xx.x", "x.x."], [None, None], 1)
        self.check("xxxx", (3,), ["xxxx", "xx..", "xx.."], [None, None], 2)
        # A piece that this neighbour does not claim is rarer, but is not to be had here.
        self.check("xx..", (), ["xx..", "xx..", "...x"], [None, None], 0)

    def test_607_of_equals_the_least(self):
        self.check("xxxx", (), ["xxxx", "xxxx"], [None], 0)
        self.check("xxxx", (), ["xxxx", "xx..", "..xx"], [None, None], 0)
        self.check("xxxx", (0,), ["xxxx", "x..."], [None], 1)
        self.check(".xxx", (), [".xxx", "xx..", "..x."], [], 3)
        self.check(".xxx", (), [".xxx", "xx..", "..xx"], [], 1)

    def test_607_what_is_not_asked_of_another_one_goes_first(self):
        self.check("xxxx", (), ["xxxx", "xxx."], [3], 0)
        self.check("xxxx", (), ["xxxx", "xxx."], [None, 0, 3, None], 1)
        self.check("xxxx", (1, 2), ["xxxx", "xxx."], [3], 0)

    def test_607_all_are_asked_of_others(self):
        self.check("xxxx", (), ["xxxx", "xxx."], [3, 2, 1, 0], 0)
        self.check(".x.x", (), [".x.x", ".x..", ".x.."], [1, 3], 1)
        self.check("xxxx", (0, 1), ["xxxx"], [2, 3, None], 2)
        self.check("x...", (), ["x..."], [0, 0], 0)

    def test_607_drawn(self):
        chance = random.Random(607)
        for _ in range(3000):
            count = chance.randrange(1, 7)
            claims = [chance.random() < 0.6 for _ in range(count)]
            held = chance.sample(range(count), chance.randrange(count + 1))
            fields = [claims] + [[chance.random() < 0.5 for _ in range(count)] for _ in range(chance.randrange(4))]
            asked = [chance.choice([None, *range(count)]) for _ in range(chance.randrange(5))]
            with Unchanged(self, claims, held, fields, asked):
                self.assertEqual(choice(claims, held, fields, asked), chosen_as_told(claims, held, fields, asked))


if __name__ == "__main__":
    unittest.main()

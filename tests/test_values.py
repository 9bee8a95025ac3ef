"""Points 104 to 106, and the heading swarmwhole/values.py of the interface."""

import random
import unittest

from swarmwhole.errors import BadText, BadValue
from swarmwhole.values import decode, decode_at, dict_of, encode, entry, is_value
from tests.helpers import ANY_VALUES, Unchanged, nested, octets

ONE = ("int", 1)

# Values, each with its text.
TEXTS = (
    (("int", 0), "n0;"), (("int", 7), "n7;"), (("int", -7), "n-7;"), (("int", 10), "n10;"), (("int", -100), "n-100;"),
    (("octets", ()), "o0:"), (("octets", (97,)), "o1:a"), (("octets", octets("n1;]}:")), "o6:n1;]}:"),
    (("octets", (0, 255, 37)), "o3:\x00\xff%"), (("octets", octets("0123456789")), "o10:0123456789"),
    (("list", ()), "[]"), (("list", (ONE,)), "[n1;]"), (("list", (("list", ()), ("dict", ()))), "[[]{}]"),
    (("list", (("int", -7), ("octets", (1, 2)))), "[n-7;o2:\x01\x02]"),
    (("dict", ()), "{}"), (("dict", (((), ONE),)), "{o0:n1;}"),
    (("dict", (((97,), ("int", 2)), ((97, 0), ("list", ())), ((98,), ("dict", ())))), "{o1:an2;o2:a\x00[]o1:b{}}"),
    (("dict", (((), ("octets", (98,))), ((255,), ("octets", ())))), "{o0:o1:bo1:\xffo0:}"),
)

# Texts that are none, each with the place of the first octet that cannot stand there.
WRONG = (
    ("", 0), ("x", 0), (";", 0), ("]", 0), ("}", 0), ("1", 0), (" n1;", 0), ("N1;", 0),
    ("n", 1), ("n;", 1), ("n-", 2), ("n-;", 2), ("n--1;", 2), ("n+1;", 1), ("n 1;", 1), ("n1", 2), ("n12", 3),
    ("n1 ;", 2), ("n1:", 2), ("n1-;", 2), ("nx", 1),
    ("n00;", 2), ("n01;", 2), ("n07;", 2), ("n0", 2), ("n0x", 2), ("n-0;", 2), ("n-0", 2), ("n-01;", 2),
    ("n/;", 1), ("n:;", 1), ("n1/", 2),
    ("o", 1), ("o:", 1), ("o-1:", 1), ("o1", 2), ("o1;a", 2), ("o00:", 2), ("o01:a", 2), ("o0", 2), ("o0;", 2),
    ("o1:", 3), ("o2:a", 4), ("o10:abc", 7), ("o1:ab", 4), ("o 1:a", 1), ("o1 :a", 2), ("o+1:a", 1),
    ("o999999999:", 11), ("o999999999:abc", 14), ("o1000000000:", 10), ("o9999999999:", 10), ("o0000000000:", 2),
    ("[", 1), ("[n1;", 4), ("[n1", 3), ("[n07;]", 3), ("[;]", 1), ("[}", 1), ("[n1;}", 4), ("[n1;,n2;]", 4),
    ("[ ]", 1), ("[[]", 3), ("[]]", 2), ("[o2:]", 5), ("[o2:]]", 6), ("[n1;]n", 5), ("[n-0;]", 3),
    ("{", 1), ("{]", 1), ("{n1;", 1), ("{[", 1), ("{{", 1), ("{o1:a}", 5), ("{o1:a]", 5), ("{o1:a", 5), ("{o1:", 4),
    ("{o", 2), ("{o1", 3), ("{o01:an1;}", 3), ("{o1:an1;", 8), ("{o1:an1;]", 8), ("{o1:an1;n", 8), ("{o1:a;", 5),
    ("{o1:an1;}x", 9), ("{o1:bn1;o1:an1;}", 8), ("{o1:an1;o1:an1;}", 8), ("{o1:an1;o1:a", 8), ("{o1:an1;o1:a}", 8),
    ("{o1:an1;o1:ax", 8), ("{o1:an1;o0:n1;}", 8), ("{o2:aan1;o1:an1;}", 9), ("{o1:bn1;o2:aan1;}", 8),
    ("{o1:bn1;o1:", 11), ("{o1:bn1;o2:a", 12), ("{o1:bn1;o1", 10), ("{o1:bn1;o01:an1;}", 10),
    ("{o1:an1;o1:bn1;o1:bn1;}", 15), ("{o1:an1;o1:bn1;o1:an1;}", 15),
    ("[{o1:bn1;o1:an1;}]", 9), ("{o1:a{o1:bn1;o1:an1;}}", 13),
    ("n1;n1;", 3), ("n1;;", 3), ("o0:o", 3), ("[][]", 2), ("{}{}", 2), ("n1; ", 3), ("n1;\n", 3),
)


def decode_place(text_octets):
    """The place that BadText tells, or None if the octets are the text of a value."""
    try:
        decode(text_octets)
    except BadText as error:
        return error.place
    return None


class Values(unittest.TestCase):
    def test_104_values(self):
        for value, _ in TEXTS:
            self.assertIs(is_value(value), True, value)

    def test_104_integers_have_at_most_600_digits(self):
        for sign in (1, -1):
            self.assertIs(is_value(("int", sign * (10 ** 600 - 1))), True)
            self.assertIs(is_value(("int", sign * 10 ** 599)), True)
            self.assertIs(is_value(("int", sign * 10 ** 600)), False)
            self.assertIs(is_value(("int", sign * (10 ** 601 - 1))), False)
            self.assertIs(is_value(("int", sign * 10 ** 6000)), False)
            self.assertIs(is_value(("list", (("int", sign * 10 ** 600),))), False)

    def test_104_what_is_no_value(self):
        wrong = (
            ("int", True), ("int", False), ("int", None), ("int", 1.0), ("int", "1"), ("int", (1,)), ("int",),
            ("int", 1, 1),
            ("octets", [1]), ("octets", "ab"), ("octets", (256,)), ("octets", (-1,)), ("octets", (True,)),
            ("octets", 1),
            ("octets", None), ("octets", ((1,),)), ("octets",),
            ("list", []), ("list", [ONE]), ("list", ONE), ("list", (1,)), ("list", ((),)), ("list", None),
            ("list", "ab"),
            ("list", (ONE, ["int", 1])), ("list", (ONE, None)), ("list",),
            ("dict", []), ("dict", {}), ("dict", [((97,), ONE)]), ("dict", ([(97,), ONE],)),
            ("dict", (((97,), ONE, ONE),)),
            ("dict", (((97,),),)), ("dict", (([97], ONE),)), ("dict", (("a", ONE),)), ("dict", ((97, ONE),)),
            ("dict", (((97,), 1),)), ("dict", (((256,), ONE),)), ("dict", (((True,), ONE),)), ("dict", ((),)),
            ("dict", (ONE,)), ("dict", (None,)), ("dict", 5), ("dict", ((None, ONE), (None, ONE))),
            ["int", 1], ("Int", 1), ("integer", 1), (b"int", 1), (1, "int"), ("", ()), (None, ()), ((), ()),
            ("pair", ()),
        )
        for value in (*wrong, *ANY_VALUES):
            with self.subTest(value), Unchanged(self, value):
                self.assertIs(is_value(value), False)
                self.assertRaises(BadValue, encode, value)
                self.assertIs(is_value(("list", (ONE, value))), False)
                self.assertIs(is_value(("dict", (((1,), value),))), False)

    def test_104_keys_are_strictly_ascending(self):
        def keyed(*keys):
            return ("dict", tuple((key, ONE) for key in keys))
        for keys in (((),), ((), (0,)), ((0,), (0, 0)), ((1,), (1, 0), (1, 255), (2,)), ((9, 9), (10,)), ((2,), (10,))):
            self.assertIs(is_value(keyed(*keys)), True, keys)
        for keys in (((), ()), ((1,), (1,)), ((0,), ()), ((2,), (1,)), ((1, 0), (1,)), ((10,), (9, 9)), ((10,), (2,)),
                     ((1,), (3,), (2,)), ((1,), (2,), (2,)), ((1,), (2,), (1,))):
            self.assertIs(is_value(keyed(*keys)), False, keys)
            self.assertRaises(BadValue, encode, keyed(*keys))

    def test_104_lists_and_dictionaries_are_at_most_32_deep(self):
        for innermost in ((), (ONE,)):
            for deep in (1, 2, 31, 32):
                self.assertIs(is_value(nested(deep, innermost)), True, deep)
            for deep in (33, 34, 60):
                self.assertIs(is_value(nested(deep, innermost)), False, deep)
                self.assertRaises(BadValue, encode, nested(deep, innermost))
        self.assertIs(is_value(nested(31, (("dict", ()),))), True)
        self.assertIs(is_value(nested(32, (("dict", ()),))), False)
        self.assertIs(is_value(("dict", (((), nested(31, (ONE,))),))), True)
        self.assertIs(is_value(("dict", (((), nested(32, (ONE,))),))), False)
        self.assertIs(is_value(nested(30, (ONE, ("list", (("dict", ()),)), ONE))), True)
        self.assertIs(is_value(nested(31, (ONE, ("list", (("dict", ()),)), ONE))), False)


class Texts(unittest.TestCase):
    def test_105_each_value_has_its_text(self):
        for value, text in TEXTS:
            with self.subTest(text), Unchanged(self, value):
                self.assertEqual(encode(value), octets(text))
                self.assertEqual(decode(octets(text)), value)

    def test_105_integers_of_600_digits(self):
        for number in (10 ** 600 - 1, -(10 ** 600 - 1), 10 ** 599, -(10 ** 599)):
            text = octets(f"n{number};")
            self.assertEqual(encode(("int", number)), text)
            self.assertEqual(decode(text), ("int", number))

    def test_105_lists_32_deep(self):
        text = octets("[" * 32 + "n1;" + "]" * 32)
        self.assertEqual(encode(nested(32, (ONE,))), text)
        self.assertEqual(decode(text), nested(32, (ONE,)))
        text = octets("{o0:" * 32 + "}" * 32)
        self.assertEqual(decode_place(text), 4 * 32)
        text = octets("{o0:" * 32 + "n1;" + "}" * 32)
        self.assertEqual(encode(decode(text)), text)

    def test_105_different_values_have_different_texts(self):
        self.assertEqual(len({encode(value) for value, _ in TEXTS}), len(TEXTS))

    def test_106_the_place_of_the_first_octet_that_cannot_stand_there(self):
        for text, place in WRONG:
            with self.subTest(text):
                self.assertEqual(decode_place(octets(text)), place)

    def test_106_what_is_sound_at_a_place_of_longer_octets(self):
        for value, text in TEXTS:
            for ahead in ("", "n", "[[", "\x00o9:"):
                for behind in ("", "]", "n1;", "\xff"):
                    with self.subTest(ahead + text + behind):
                        found = decode_at(octets(ahead + text + behind), len(ahead))
                        self.assertEqual(found, (value, len(ahead) + len(text)))

    def test_106_places_are_those_of_the_whole_octets(self):
        for text, place in WRONG:
            for ahead in ("n", "{o0:", "\x00\xff"):
                whole = octets(ahead + text)
                with self.subTest(ahead + text):
                    try:
                        _, behind = decode_at(whole, len(ahead))
                    except BadText as error:
                        self.assertEqual(error.place, len(ahead) + place)
                    else:
                        # What stands behind the value is not asked for here.
                        self.assertEqual(behind, len(ahead) + place)

    def test_106_the_end_of_the_octets_as_the_place(self):
        for text in ("", "n1;", "abc"):
            with self.assertRaises(BadText) as caught:
                decode_at(octets(text), len(text))
            self.assertEqual(caught.exception.place, len(text))

    def test_106_the_601st_digit(self):
        self.assertEqual(decode_place(octets("n" + "9" * 601 + ";")), 601)
        self.assertEqual(decode_place(octets("n" + "9" * 5000 + ";")), 601)
        self.assertEqual(decode_place(octets("n-" + "9" * 601 + ";")), 602)
        self.assertEqual(decode_place(octets("n" + "9" * 600)), 601)
        self.assertEqual(decode_place(octets("n" + "9" * 600 + ":")), 601)
        self.assertEqual(decode_place(octets("[n" + "1" * 601 + ";]")), 602)

    def test_106_the_33rd_list_or_dictionary(self):
        self.assertEqual(decode_place(octets("[" * 33 + "]" * 33)), 32)
        self.assertEqual(decode_place(octets("[" * 100)), 32)
        self.assertEqual(decode_place(octets("[" * 32 + "{" + "}" + "]" * 32)), 32)
        self.assertEqual(decode_place(octets("[" * 32)), 32)
        self.assertEqual(decode_place(octets("[" * 32 + "x")), 32)
        self.assertEqual(decode_place(octets("{o0:" * 32 + "[")), 128)
        self.assertEqual(decode_place(octets("{o0:" * 32 + "{")), 128)
        self.assertEqual(decode_place(octets("[" + "[]" * 5 + "[" * 32)), 1 + 10 + 31)
        with self.assertRaises(BadText) as caught:
            decode_at(octets("xy" + "[" * 33), 2)
        self.assertEqual(caught.exception.place, 34)
        self.assertEqual(decode_at(octets("[" * 3 + "[" * 32 + "]" * 32), 3)[1], 3 + 64)

    def test_106_what_is_read_writes_the_same_octets_and_places_end_what_is_sound(self):
        chance = random.Random(106)
        texts = [octets(text) for _, text in TEXTS]
        for _ in range(6000):
            text = self.changed(chance, chance.choice(texts))
            place = decode_place(text)
            with self.subTest(text):
                if place is None:
                    self.assertEqual(encode(decode(text)), text)
                else:
                    # What stands ahead of the place is a text, or the beginning of one.
                    self.assertIn(decode_place(text[:place]), (None, place))

    @staticmethod
    def changed(chance, text):
        out = list(text)
        for _ in range(chance.randint(1, 3)):
            place = chance.randint(0, len(out))
            deed = chance.randint(0, 2)
            if deed == 0:
                out.insert(place, ord(chance.choice("no[]{}0129-;:a")))
            elif out and deed == 1:
                del out[place % len(out)]
            elif out:
                out[place % len(out)] = ord(chance.choice("no[]{}0129-;:a"))
        return tuple(out)

    def test_106_random_values_there_and_back(self):
        chance = random.Random(105)
        for _ in range(500):
            value = self.grown(chance, 4)
            self.assertIs(is_value(value), True)
            self.assertEqual(decode(encode(value)), value)

    def grown(self, chance, deep):
        word = chance.choice(("int", "octets", "list", "dict") if deep else ("int", "octets"))
        if word == "int":
            return ("int", chance.randint(-10 ** chance.randint(0, 30), 10 ** chance.randint(0, 30)))
        some = tuple(chance.randint(0, 255) for _ in range(chance.randint(0, 12)))
        if word == "octets":
            return ("octets", some)
        if word == "list":
            return ("list", tuple(self.grown(chance, deep - 1) for _ in some[:4]))
        keys = sorted({some[place:place + 2] for place in range(len(some))})
        return ("dict", tuple((key, self.grown(chance, deep - 1)) for key in keys[:4]))


class Dictionaries(unittest.TestCase):
    def test_104_pairs_in_any_order(self):
        pairs = [((98,), ("int", 1)), ((97,), ("int", 2)), ((97, 0), ("int", 3)), ((), ("int", 4))]
        due = ("dict", (((), ("int", 4)), ((97,), ("int", 2)), ((97, 0), ("int", 3)), ((98,), ("int", 1))))
        for order in ((0, 1, 2, 3), (3, 2, 1, 0), (1, 3, 0, 2)):
            for made in (list, tuple):
                given = made(pairs[place] for place in order)
                with Unchanged(self, given):
                    self.assertEqual(dict_of(given), due)
        self.assertEqual(dict_of([]), ("dict", ()))
        self.assertEqual(dict_of(()), ("dict", ()))

    def test_104_later_changes_of_the_list_have_no_effect(self):
        pairs = [((98,), ONE), ((97,), ONE)]
        found = dict_of(pairs)
        pairs.append(((99,), ONE))
        pairs[0] = None
        self.assertEqual(found, ("dict", (((97,), ONE), ((98,), ONE))))

    def test_104_equal_values_are_never_compared(self):
        self.assertEqual(dict_of([((2,), ("list", ())), ((1,), ("int", 1))])[1][0][0], (1,))

    def test_104_a_key_twice(self):
        for pairs in ([((97,), ONE), ((97,), ONE)], [((97,), ONE), ((98,), ONE), ((97,), ("int", 2))],
                      (((), ONE), ((), ("list", ())))):
            with self.subTest(pairs), Unchanged(self, pairs):
                self.assertRaises(BadValue, dict_of, pairs)

    def test_104_a_dictionary_that_is_no_value(self):
        for item in (None, 1, ("int", True), ("list", [ONE]), ("int", 10 ** 600), nested(32, ())):
            with self.subTest(item):
                self.assertRaises(BadValue, dict_of, [((97,), item)])
        self.assertEqual(dict_of([((97,), nested(31, ()))]), ("dict", (((97,), nested(31, ())),)))
        for key in ([97], (256,), "a", None, 97):
            with self.subTest(key):
                self.assertRaises(BadValue, dict_of, [(key, ONE)])
                self.assertRaises(BadValue, dict_of, [((1,), ONE), (key, ONE), ((2,), ONE)])
        for pair in (((97,),), ((97,), ONE, ONE), [(97,), ONE], (), None, 5):
            with self.subTest(pair):
                self.assertRaises(BadValue, dict_of, [((1,), ONE), pair])

    def test_104_entries(self):
        value = dict_of([((1,), ("int", 1)), ((1, 2), ("int", 2)), ((1, 2, 3), ("int", 3)), ((2,), ("int", 4))])
        for key, due in (((1,), 1), ((1, 2), 2), ((1, 2, 3), 3), ((2,), 4)):
            self.assertEqual(entry(value, key), ("int", due))
        for key in ((), (0,), (1, 1), (1, 2, 3, 4), (2, 0), (3,)):
            self.assertIsNone(entry(value, key))
        self.assertIsNone(entry(("dict", ()), ()))
        self.assertEqual(entry(("dict", (((), ("list", ())),)), ()), ("list", ()))


if __name__ == "__main__":
    unittest.main()

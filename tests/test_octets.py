"""Points 101 to 103, and the heading swarmwhole/octets.py of the interface."""

import unittest

from swarmwhole.errors import BadOctets
from swarmwhole.octets import (
    as_octets, cut, from_hex, hex_of, is_integer, is_octet, is_octets, joined, number_of, octets_of, text_of,
)
from tests.helpers import ANY_VALUES, Unchanged


class Kinds(unittest.TestCase):
    def test_101_integers_are_not_truth_values(self):
        for value in (0, 1, -1, 255, 256, -(2 ** 100), 2 ** 5000):
            self.assertIs(is_integer(value), True)
        for value in (True, False, None, 1.0, 0.5, "1", (), (1,), [1], float("nan")):
            self.assertIs(is_integer(value), False, value)

    def test_102_an_octet_is_an_integer_from_0_to_255(self):
        for value in (0, 1, 128, 254, 255):
            self.assertIs(is_octet(value), True)
        for value in (-1, 256, -255, 2 ** 64, True, False, None, 1.0, "a", "", (), (1,), [1]):
            self.assertIs(is_octet(value), False, value)

    def test_102_octets_are_a_tuple_of_octets(self):
        for value in ((), (0,), (255,), (0, 1, 255), (7,) * 1000):
            self.assertIs(is_octets(value), True)
        wrong = (
            [], [1], [1, 2], "", "ab", None, True, 0, 5, 1.5, (256,), (-1,), (True,), (False,), (None,), ("a",), ("",),
            (1.0,), ((),), ((1,),), ([1],), (1, 2, 256), (1, 2, True), (-1, 2, 3), {}, b"", b"ab",
        )
        for value in wrong:
            self.assertIs(is_octets(value), False, value)

    def test_102_octets_have_the_size_that_is_due(self):
        self.assertIs(is_octets((), size=0), True)
        self.assertIs(is_octets((1, 2, 3), size=3), True)
        self.assertIs(is_octets((1, 2, 3), size=None), True)
        for value, size in (((), 1), ((1,), 0), ((1, 2, 3), 2), ((1, 2, 3), 4), ((1, 256), 2), ([1, 2], 2), ("ab", 2)):
            self.assertIs(is_octets(value, size=size), False, (value, size))
        for value in ANY_VALUES:
            self.assertIs(is_octets(value, size=7), False, value)

    def test_101_any_value_gets_an_answer_and_stays_as_it_is(self):
        for value in ANY_VALUES:
            with self.subTest(value), Unchanged(self, value):
                for asked in (is_integer, is_octet, is_octets):
                    self.assertIsInstance(asked(value), bool)

    def test_the_size_is_passed_by_its_name(self):
        with self.assertRaises(TypeError):
            is_octets((1,), 1)
        with self.assertRaises(TypeError):
            as_octets(1, 1)


class Strings(unittest.TestCase):
    def test_103_the_octets_of_a_string_are_its_codes(self):
        self.assertEqual(octets_of(""), ())
        self.assertEqual(octets_of("ab c"), (97, 98, 32, 99))
        self.assertEqual(text_of(()), "")
        self.assertEqual(text_of((97, 98, 32, 99)), "ab c")

    def test_103_just_the_characters_from_the_blank_to_the_tilde_without_the_percent_sign(self):
        for code in range(0, 300):
            with self.subTest(code):
                if 32 <= code <= 126 and code != 37:
                    self.assertEqual(octets_of(chr(code)), (code,))
                    self.assertEqual(text_of((code,)), chr(code))
                else:
                    self.assertRaises(BadOctets, octets_of, chr(code))
                    if code < 256:
                        self.assertRaises(BadOctets, text_of, (code,))

    def test_103_one_wrong_character_among_others(self):
        for text in ("%", "a%", "%a", "50% of", "a\nb", "tab\t", "\x00", "\x1f", "\x7f", "a\x80", "\xe4", "\u20ac",
                     "\U0001f600", "\ud800"):
            with self.subTest(text):
                self.assertRaises(BadOctets, octets_of, text)
        for codes in ((97, 37), (37, 97), (97, 10), (31,), (127,), (0,), (255,), (97, 98, 200)):
            with self.subTest(codes):
                self.assertRaises(BadOctets, text_of, codes)

    def test_103_there_and_back(self):
        every = "".join(chr(code) for code in range(32, 127) if code != 37)
        self.assertEqual(text_of(octets_of(every)), every)


class Numbers(unittest.TestCase):
    def test_102_the_greatest_part_stands_first(self):
        self.assertEqual(number_of(()), 0)
        self.assertEqual(number_of((1, 0)), 256)
        self.assertEqual(number_of((1, 0, 2)), 65538)
        self.assertEqual(number_of((0, 0, 7)), 7)
        self.assertEqual(as_octets(258, size=3), (0, 1, 2))
        self.assertEqual(as_octets(0, size=0), ())
        self.assertEqual(as_octets(0, size=2), (0, 0))

    def test_102_numbers_next_to_powers_of_256(self):
        for size in range(1, 10):
            power = 256 ** size
            self.assertEqual(as_octets(power - 1, size=size), (255,) * size)
            self.assertEqual(as_octets(power, size=size + 1), (1,) + (0,) * size)
            self.assertEqual(as_octets(power + 1, size=size + 1), (1,) + (0,) * (size - 1) + (1,))
            self.assertEqual(number_of((255,) * size), power - 1)
            self.assertEqual(number_of((1,) + (0,) * size), power)
            self.assertRaises(BadOctets, as_octets, power, size=size)
            self.assertRaises(BadOctets, as_octets, power + 1, size=size)
            self.assertRaises(BadOctets, as_octets, -power, size=size)
            self.assertRaises(BadOctets, as_octets, 1 - power, size=size)

    def test_102_numbers_that_do_not_fit(self):
        for number, size in ((256, 1), (1, 0), (-1, 1), (-1, 0), (-256, 2), (2 ** 64, 8), (-(2 ** 70), 9)):
            with self.subTest(number=number, size=size):
                self.assertRaises(BadOctets, as_octets, number, size=size)

    def test_102_there_and_back(self):
        for number in (0, 1, 255, 256, 65535, 65536, 123456789, 2 ** 63):
            for size in (8, 9, 20):
                self.assertEqual(number_of(as_octets(number, size=size)), number)
                self.assertEqual(as_octets(number, size=size), tuple(number.to_bytes(size, "big")))


class Hexadecimal(unittest.TestCase):
    def test_103_two_characters_for_each_octet(self):
        self.assertEqual(hex_of(()), "")
        self.assertEqual(hex_of((0, 1, 16, 171, 255)), "000110abff")
        self.assertEqual(from_hex(""), ())
        self.assertEqual(from_hex("000110abff"), (0, 1, 16, 171, 255))

    def test_103_every_octet_there_and_back(self):
        every = tuple(range(256))
        self.assertEqual(hex_of(every), bytes(every).hex())
        self.assertEqual(from_hex(bytes(every).hex()), every)

    def test_103_texts_that_are_none(self):
        wrong = ("0", "0a1", "0A", "A0", "FF", "fF", "g0", "0g", "0x", " 0", "0 ", "00 00", "-1", "+1", "00\n", "0_0",
                 "\u0661\u0661", "zz", "/0", ":0", "`0", "0`", "@a")
        for text in wrong:
            with self.subTest(text):
                self.assertRaises(BadOctets, from_hex, text)


class Parts(unittest.TestCase):
    def test_joined_takes_lists_and_tuples(self):
        self.assertEqual(joined([]), ())
        self.assertEqual(joined(()), ())
        self.assertEqual(joined([(), ()]), ())
        self.assertEqual(joined([(1, 2), (), (3,)]), (1, 2, 3))
        self.assertEqual(joined(((3,), (1, 2))), (3, 1, 2))

    def test_joined_changes_nothing(self):
        parts = [(1, 2), (3,)]
        with Unchanged(self, parts):
            found = joined(parts)
        parts.append((4,))
        self.assertEqual(found, (1, 2, 3))

    def test_cut_makes_parts_of_one_size(self):
        self.assertEqual(cut((1, 2, 3, 4, 5), 2), [(1, 2), (3, 4), (5,)])
        self.assertEqual(cut((1, 2, 3, 4), 2), [(1, 2), (3, 4)])
        self.assertEqual(cut((1, 2, 3), 1), [(1,), (2,), (3,)])
        self.assertEqual(cut((1, 2, 3), 3), [(1, 2, 3)])
        self.assertEqual(cut((1, 2, 3), 4), [(1, 2, 3)])
        self.assertEqual(cut((), 1), [])
        self.assertEqual(cut((), 5), [])

    def test_cut_and_joined_are_contraries(self):
        for count in range(20):
            for size in range(1, 22):
                octets = tuple(range(count))
                parts = cut(octets, size)
                self.assertEqual(joined(parts), octets)
                self.assertEqual([len(part) for part in parts[:-1]], [size] * (len(parts) - 1) if parts else [])
                self.assertTrue(all(1 <= len(part) <= size for part in parts))


if __name__ == "__main__":
    unittest.main()

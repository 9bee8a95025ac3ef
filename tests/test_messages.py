"""Points 400 to 402, and the heading swarmwhole/messages.py of the interface."""

import random
import unittest

from swarmwhole.content import cut
from swarmwhole.descriptions import identity, piece_count, piece_length
from swarmwhole.digests import Hasher
from swarmwhole.errors import BadDescription, BadMessage
from swarmwhole.messages import is_message, message_octets, message_of, most_octets
from swarmwhole.trees import depth, proofs
from tests.helpers import ANY_VALUES, Unchanged
from tests.samples import SHA, WRONG_DESCRIPTIONS, content, filling, path, raw

# Five pieces, the last one of 3 octets, in three files, with digests of 2 octets and a tree 3 deep.
FIVE, FILES = content(9, 0, 10, kind=("sum", 2))
PIECES = cut(FIVE, FILES)
PROOFS = proofs(Hasher(("sum", 2)), PIECES)
FLAGS = (True, False, False, True, True)


def number_octets(number):
    return tuple(number.to_bytes(4, "big"))


def rows(description):
    """Messages of each row of the table with the first and the last index."""
    count, size = piece_count(description), description[1][1]
    flags = tuple(place % 3 == 0 for place in range(count))
    found = [("hello", version, tuple(range(first, first + size))) for version in (0, 1, 255) for first in (0, 100)]
    found += [("field", (True,) * count), ("field", (False,) * count), ("field", flags)]
    found += [(word,) for word in ("wish", "nowish", "choke", "unchoke")]
    for index in sorted({0, 1, count - 1} & set(range(count))):
        found += [(word, index) for word in ("have", "ask", "refuse")]
        for first in (0, 200):
            proof = tuple((first + height,) * size for height in range(depth(count)))
            found.append(("piece", index, filling(piece_length(description, index), first + 1), proof))
    return found


def samples():
    """Descriptions of many shapes."""
    for kind in (("sum", 1), ("sum", 2), ("sum", 8), SHA):
        for total in (1, 3, 4, 5, 28, 29, 32, 33, 64, 65):
            yield content(total, kind=kind)[0]
    yield raw(size=4, files=((path("a"), 16384),))
    yield raw(size=4, files=((path("a"), 16383),))
    yield raw(size=256, files=((path("a"), 4095 * 256),), kind=SHA, root=(0,) * 24)


class Messages(unittest.TestCase):
    def yes(self, value):
        with Unchanged(self, value):
            self.assertIs(is_message(FIVE, value), True, value)
            self.assertIsInstance(message_octets(FIVE, value), tuple)

    def no(self, *values):
        for value in values:
            with self.subTest(value), Unchanged(self, value):
                self.assertIs(is_message(FIVE, value), False)
                self.assertRaises(BadMessage, message_octets, FIVE, value)

    def test_400_each_row_of_the_table(self):
        for description in samples():
            for message in rows(description):
                self.assertIs(is_message(description, message), True, message)

    def test_400_hello(self):
        self.yes(("hello", 0, (1, 2)))
        self.yes(("hello", 255, (255, 255)))
        self.yes(("hello", 1, identity(FIVE)))
        self.no(("hello",), ("hello", 1), ("hello", 1, (1, 2), 3), ("hello", (1, 2), 1), ("hello", -1, (1, 2)),
                ("hello", 256, (1, 2)), ("hello", True, (1, 2)), ("hello", None, (1, 2)), ("hello", 1.0, (1, 2)),
                ("hello", 1, (1,)), ("hello", 1, (1, 2, 3)), ("hello", 1, ()), ("hello", 1, [1, 2]), ("hello", 1, "ab"),
                ("hello", 1, (1, 256)), ("hello", 1, (1, True)), ("hello", 1, None), ["hello", 1, (1, 2)])

    def test_400_field(self):
        for flags in (FLAGS, (True,) * 5, (False,) * 5):
            self.yes(("field", flags))
        self.no(("field",), ("field", FLAGS, 1), ("field", FLAGS[:-1]), ("field", FLAGS + (False,)), ("field", ()),
                ("field", list(FLAGS)), ("field", (1, 0, 0, 1, 1)), ("field", FLAGS[:-1] + (1,)),
                ("field", (0,) + FLAGS[1:]),
                ("field", FLAGS[:-1] + (None,)), ("field", (1.0,) + FLAGS[1:]), ("field", True), ("field", None),
                ("field", "abcde"), ("field", 5), ("field", *FLAGS))

    def test_400_messages_with_an_index(self):
        for word in ("have", "ask", "refuse"):
            for index in range(5):
                self.yes((word, index))
            self.no((word,), (word, 0, 0), (word, -1), (word, 5), (word, 6), (word, 2 ** 32), (word, True),
                    (word, False),
                    (word, None), (word, 1.0), (word, "1"), (word, (1,)), (word, [1]), [word, 1])

    def test_400_messages_without_items(self):
        for word in ("wish", "nowish", "choke", "unchoke"):
            self.yes((word,))
            self.no((word, 0), (word, None), (word, ()), [word], word)

    def test_400_pieces(self):
        for index in range(5):
            self.yes(("piece", index, PIECES[index], PROOFS[index]))
            self.yes(("piece", index, (0,) * len(PIECES[index]), ((9, 9),) * 3))
        piece, proof = PIECES[1], PROOFS[1]
        self.no(("piece",), ("piece", 1), ("piece", 1, piece), ("piece", 1, piece, proof, 1),
                ("piece", 1, proof, piece),
                ("piece", -1, piece, proof), ("piece", 5, piece, proof), ("piece", True, piece, proof),
                ("piece", 1.0, piece, proof), ("piece", None, piece, proof), ("piece", (1,), piece, proof),
                ("piece", 1, piece[:-1], proof), ("piece", 1, piece + (0,), proof), ("piece", 1, (), proof),
                ("piece", 1, list(piece), proof), ("piece", 1, "abcd", proof), ("piece", 1, None, proof),
                ("piece", 1, piece[:-1] + (256,), proof), ("piece", 1, piece[:-1] + (True,), proof),
                ("piece", 4, piece, proof), ("piece", 4, piece[:2], proof), ("piece", 4, piece[:3], proof[:2]),
                ("piece", 1, piece, proof[:2]), ("piece", 1, piece, proof + (proof[0],)), ("piece", 1, piece, ()),
                ("piece", 1, piece, list(proof)), ("piece", 1, piece, None), ("piece", 1, piece, 3),
                ("piece", 1, piece, "abc"), ("piece", 1, piece, proof[:2] + ((1,),)),
                ("piece", 1, piece, proof[:2] + ((1, 2, 3),)), ("piece", 1, piece, proof[:2] + ([1, 2],)),
                ("piece", 1, piece, proof[:2] + ((1, 256),)), ("piece", 1, piece, (None,) + proof[1:]),
                ("piece", 1, piece, proof[0] + proof[1] + proof[2]), ["piece", 1, piece, proof])
        self.yes(("piece", 4, piece[:3], proof))

    def test_400_other_words_and_values(self):
        self.no((), ("",), ("Hello", 1, (1, 2)), ("give", 1), ("pieces", 1, PIECES[1], PROOFS[1]), (3,), (None,),
                (True,),
                (("wish",),), ("have", "ask"), (b"wish",), ("wish", "nowish"), ("fields", FLAGS), *ANY_VALUES)

    def test_400_one_piece_only(self):
        one = content(3, kind=("sum", 2))[0]
        self.assertIs(is_message(one, ("piece", 0, (1, 2, 3), ())), True)
        self.assertIs(is_message(one, ("piece", 0, (1, 2, 3), ((1, 2),))), False)
        self.assertIs(is_message(one, ("have", 0)), True)
        self.assertIs(is_message(one, ("have", 1)), False)
        self.assertIs(is_message(one, ("field", (True,))), True)


class Octets(unittest.TestCase):
    def test_401_the_octets_of_each_row(self):
        piece, proof = PIECES[4], PROOFS[4]
        due = {
            ("hello", 7, (1, 2)): (0, 7, 1, 2), ("field", FLAGS): (1, 128 + 16 + 8), ("have", 0): (2, 0, 0, 0, 0),
            ("have", 4): (2, 0, 0, 0, 4), ("wish",): (3,), ("nowish",): (4,), ("choke",): (5,), ("unchoke",): (6,),
            ("ask", 3): (7, 0, 0, 0, 3), ("refuse", 1): (9, 0, 0, 0, 1),
            ("piece", 4, piece, proof): (8, 0, 0, 0, 4) + proof[0] + proof[1] + proof[2] + piece,
        }
        for message, octets in due.items():
            with self.subTest(message):
                self.assertEqual(message_octets(FIVE, message), octets)
                self.assertEqual(message_of(FIVE, octets), message)

    def test_401_the_index_has_the_greatest_octet_first(self):
        many = raw(size=4, files=((path("a"), 16384),))
        for word, head in (("have", 2), ("ask", 7), ("refuse", 9)):
            for index in (0, 1, 255, 256, 257, 4095):
                octets = (head,) + number_octets(index)
                self.assertEqual(message_octets(many, (word, index)), octets)
                self.assertEqual(message_of(many, octets), (word, index))
            self.assertRaises(BadMessage, message_of, many, (head,) + number_octets(4096))
            self.assertRaises(BadMessage, message_of, many, (head, 1, 0, 0, 0))

    def test_401_flags_eight_in_each_octet(self):
        for count in (1, 2, 7, 8, 9, 15, 16, 17, 24, 31, 32, 33):
            description = raw(size=4, files=((path("a"), 4 * count),))
            for place in range(count):
                flags = (False,) * place + (True,) + (False,) * (count - place - 1)
                due = [0] * ((count + 7) // 8)
                due[place // 8] = 128 >> place % 8
                self.assertEqual(message_octets(description, ("field", flags)), (1, *due))
                self.assertEqual(message_of(description, (1, *due)), ("field", flags))
            found = message_octets(description, ("field", (True,) * count))
            bits = "".join(f"{octet:08b}" for octet in found[1:])
            self.assertEqual(bits, "1" * count + "0" * (-count % 8))

    def test_401_zeros_stand_behind_the_last_flag(self):
        for count in (1, 5, 7, 9, 12, 15, 17):
            description = raw(size=4, files=((path("a"), 4 * count),))
            length = (count + 7) // 8
            for behind in range(count, 8 * length):
                octets = [0] * length
                octets[behind // 8] = 128 >> behind % 8
                self.assertRaises(BadMessage, message_of, description, (1, *octets))
                octets[0] |= 128
                self.assertRaises(BadMessage, message_of, description, (1, *octets))

    def test_401_a_field_of_another_length(self):
        for count in (5, 8, 9):
            description = raw(size=4, files=((path("a"), 4 * count),))
            length = (count + 7) // 8
            for other in {0, length - 1, length + 1, length + 2}:
                self.assertRaises(BadMessage, message_of, description, (1,) + (0,) * other)
            self.assertEqual(message_of(description, (1,) + (0,) * length), ("field", (False,) * count))

    def test_402_there_and_back(self):
        for description in samples():
            found = rows(description)
            for message in found:
                octets = message_octets(description, message)
                self.assertEqual(message_of(description, octets), message)
                self.assertEqual(repr(message_of(description, octets)), repr(message))
                self.assertLessEqual(len(octets), most_octets(description))
            self.assertEqual(len({message_octets(description, message) for message in found}), len(set(found)))

    def test_402_octets_of_no_message(self):
        wrong = (
            (), (10,), (11,), (255,), (0,), (0, 1), (0, 1, 2), (0, 1, 2, 3, 4), (1,), (1, 0, 0), (2,), (2, 0),
            (2, 0, 0, 0),
            (2, 0, 0, 0, 5), (2, 0, 0, 0, 0, 0), (2, 0, 0, 0, 1, 0), (3, 0), (4, 0), (5, 5), (6, 0, 0), (7, 0, 0, 1, 0),
            (7, 255, 255, 255, 255), (7, 0, 0, 0), (7, 3), (8,), (8, 0, 0, 0, 0), (9,), (9, 0, 0, 0, 5), (9, 4),
            (2,) + (0,) * 100000,
        )
        for octets in wrong:
            with self.subTest(octets[:10]):
                self.assertRaises(BadMessage, message_of, FIVE, octets)
        piece = message_octets(FIVE, ("piece", 1, PIECES[1], PROOFS[1]))
        for octets in (piece[:-1], piece + (0,), piece[:5], piece[:8], (8, 0, 0, 0, 5) + piece[5:],
                       (8, 0, 0, 0, 4) + piece[5:], (8, 1, 0, 0, 1) + piece[5:], piece[:-4]):
            self.assertRaises(BadMessage, message_of, FIVE, octets)
        self.assertEqual(message_of(FIVE, (8, 0, 0, 0, 4) + piece[5:-1])[1], 4)
        self.assertRaises(BadMessage, message_of, FIVE, piece[:-1])

    def test_402_what_is_not_octets(self):
        for value in (*ANY_VALUES, [3], "abc", None, (3, 256), (True,), (3.0,), ("wish",), (256,), (-1,)):
            with self.subTest(value), Unchanged(self, value):
                self.assertRaises(BadMessage, message_of, FIVE, value)

    def test_402_whatever_is_read_writes_the_same_octets(self):
        chance = random.Random(402)
        texts = [message_octets(FIVE, message) for message in rows(FIVE)]
        read = 0
        for _ in range(5000):
            out = list(chance.choice(texts))
            for _ in range(chance.randint(1, 2)):
                place = chance.randrange(len(out) + 1)
                deed = chance.randrange(3)
                if deed == 0:
                    out.insert(place, chance.randrange(12))
                elif deed == 1 and len(out) > 1:
                    del out[place % len(out)]
                else:
                    out[place % len(out)] = chance.choice((0, 1, 2, 3, 4, 5, 8, 128, 255))
            try:
                message = message_of(FIVE, tuple(out))
            except BadMessage:
                continue
            read += 1
            self.assertIs(is_message(FIVE, message), True)
            self.assertEqual(message_octets(FIVE, message), tuple(out))
        self.assertGreater(read, 100)


class MostOctets(unittest.TestCase):
    def test_402_hello_is_the_longest(self):
        self.assertEqual(most_octets(content(1, kind=SHA)[0]), 26)
        self.assertEqual(most_octets(content(4, kind=("sum", 8))[0]), 10)
        self.assertEqual(most_octets(content(5, kind=SHA, size=65536)[0]), 26)

    def test_402_the_field_is_the_longest(self):
        self.assertEqual(most_octets(raw(kind=("sum", 1), size=4, root=(0,), files=((path("a"), 16384),))), 513)
        self.assertEqual(most_octets(raw(kind=("sum", 1), size=4, root=(0,), files=((path("a"), 16353),))), 513)
        self.assertEqual(most_octets(raw(kind=("sum", 1), size=4, root=(0,), files=((path("a"), 16352),))), 512)

    def test_402_the_first_piece_is_the_longest(self):
        self.assertEqual(most_octets(FIVE), 1 + 4 + 3 * 2 + 4)
        self.assertEqual(most_octets(content(64, size=16)[0]), 1 + 4 + 2 * 4 + 16)
        self.assertEqual(most_octets(content(3, kind=("sum", 1), size=4)[0]), 8)
        self.assertEqual(most_octets(raw(size=65536, files=((path("a"), 65537),))), 1 + 4 + 2 + 65536)

    def test_402_it_is_the_greatest_number_of_a_message(self):
        for description in samples():
            most = max(len(message_octets(description, message)) for message in rows(description))
            self.assertEqual(most_octets(description), most)


class WrongDescriptions(unittest.TestCase):
    def test_302_every_function_raises_this_first(self):
        for value, reason in WRONG_DESCRIPTIONS:
            for call in (lambda: most_octets(value), lambda: is_message(value, ("wish",)),
                         lambda: is_message(value, None),
                         lambda: message_octets(value, ("wish",)), lambda: message_octets(value, None),
                         lambda: message_of(value, (3,)), lambda: message_of(value, None)):
                with self.subTest(value), Unchanged(self, value), self.assertRaises(BadDescription) as caught:
                    call()
                self.assertEqual(caught.exception.reason, reason)


if __name__ == "__main__":
    unittest.main()

"""Points 200, 201 and 207, and the heading swarmwhole/digests.py of the interface."""

import hashlib
import unittest

from swarmwhole.digests import Hasher, digest, is_kind
from swarmwhole.errors import BadKind
from tests.helpers import ANY_VALUES, Unchanged
from tests.samples import SHA, SUMS, filling

WRONG_KINDS = (
    ("sha", 23), ("sha", 25), ("sha", 0), ("sha", 32), ("sha", -24), ("sha", 24.0), ("sha", True), ("sha", None),
    ("sha", "24"), ("sha", (24,)), ("sum", 0), ("sum", 9), ("sum", -1), ("sum", 24), ("sum", True), ("sum", False),
    ("sum", 1.0), ("sum", "1"), ("sum", None), ("sum", [1]), ("SHA", 24), ("Sum", 1), ("sha256", 24), ("", 1),
    (24, "sha"),
    ("md5", 4), (None, 1), (True, 1), (1, 1), ("sha",), ("sum",), ("sum", 1, 1), ("sha", 24, 24), ["sha", 24],
    ["sum", 1],
    "sha", "sum", ("sha", 2 ** 40), (("sum", 1),), ((115, 117, 109), 1),
)


def sum_as_told(octets, size):
    number = 1
    for octet in octets:
        number = 31 * number + octet + 1
    return tuple((number % 256 ** size).to_bytes(size, "big"))


class Kinds(unittest.TestCase):
    def test_200_the_two_kinds(self):
        for kind in (SHA, *SUMS):
            self.assertIs(is_kind(kind), True)

    def test_200_what_is_no_kind(self):
        for value in (*WRONG_KINDS, *ANY_VALUES):
            with self.subTest(value), Unchanged(self, value):
                self.assertIs(is_kind(value), False)
                self.assertRaises(BadKind, Hasher, value)
                self.assertRaises(BadKind, digest, value, (1, 2))


class Digests(unittest.TestCase):
    def test_201_sums(self):
        self.assertEqual(digest(("sum", 2), (0, 255)), (4, 224))
        self.assertEqual(digest(("sum", 1), ()), (1,))
        self.assertEqual(digest(("sum", 3), ()), (0, 0, 1))
        self.assertEqual(digest(("sum", 1), (0,)), (32,))
        self.assertEqual(digest(("sum", 2), (255,)), (1, 31))
        self.assertEqual(digest(("sum", 8), (0,)), (0,) * 7 + (32,))

    def test_201_sums_of_all_sizes(self):
        for octets in ((), (0,), (255,), (255, 0), filling(3), filling(100), (255,) * 40, (0,) * 40):
            for kind in SUMS:
                self.assertEqual(digest(kind, octets), sum_as_told(octets, kind[1]))

    def test_207_the_first_24_octets_of_sha_256(self):
        for count in (0, 1, 54, 55, 56, 57, 63, 64, 65, 119, 120, 128, 500):
            octets = filling(count)
            found = digest(SHA, octets)
            self.assertIsInstance(found, tuple)
            self.assertEqual(bytes(found), hashlib.sha256(bytes(octets)).digest()[:24])


class Hashers(unittest.TestCase):
    def test_attributes(self):
        for kind in (SHA, *SUMS):
            hasher = Hasher(kind)
            self.assertEqual(hasher.kind, kind)
            self.assertEqual(hasher.size, kind[1])

    def test_the_same_hasher_asked_again(self):
        for kind in (SHA, ("sum", 1), ("sum", 8)):
            hasher = Hasher(kind)
            for octets in (filling(70), (), (0,), filling(70), ()):
                self.assertEqual(hasher.digest(octets), digest(kind, octets))
            self.assertEqual((hasher.kind, hasher.size), (kind, kind[1]))

    def test_is_digest(self):
        for kind in (SHA, *SUMS):
            hasher = Hasher(kind)
            size = kind[1]
            self.assertIs(hasher.is_digest(hasher.digest((1, 2, 3))), True)
            self.assertIs(hasher.is_digest((255,) * size), True)
            wrong = ((0,) * (size - 1), (0,) * (size + 1), [0] * size, "a" * size, (0,) * (size - 1) + (256,),
                     (True,) * size, (None,) * size, size, None, True)
            for value in wrong:
                self.assertIs(hasher.is_digest(value), False, value)
        for value in ANY_VALUES:
            with Unchanged(self, value):
                self.assertIs(Hasher(("sum", 5)).is_digest(value), False)


if __name__ == "__main__":
    unittest.main()

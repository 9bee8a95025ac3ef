"""Points 308 and 309, and the heading swarmwhole/content.py of the interface."""

import unittest
from unittest import mock

from swarmwhole.content import cut, describe, fits, join, whole_files
from swarmwhole.descriptions import check_description, piece_count, piece_length, pieces_of
from swarmwhole.digests import Hasher
from swarmwhole.errors import BadContent
from swarmwhole.trees import root
from tests.helpers import ANY_VALUES, Unchanged, octets, reason_of
from tests.samples import NAME, SHA, SUMS, WRONG_DESCRIPTIONS, content, files_of, filling, path, raw

LENGTHS = ((1,), (4,), (5,), (8,), (3, 0, 6), (0, 0, 7, 0, 0), (4, 4, 4), (1,) * 9, (2, 17, 0, 1, 3), (0, 8, 0, 8, 0))


def stream_of(contents):
    return tuple(octet for held in contents for octet in held)


class Describe(unittest.TestCase):
    def test_308_the_description_of_content(self):
        for kind in (SHA, ("sum", 1), ("sum", 8)):
            for lengths in LENGTHS:
                for size in (4, 8):
                    files = files_of(*lengths)
                    with Unchanged(self, files):
                        found = describe(NAME, kind, size, files)
                    stream = stream_of(held for _, held in files)
                    pieces = [stream[place:place + size] for place in range(0, len(stream), size)]
                    rows = tuple((where, len(held)) for where, held in files)
                    self.assertEqual(found, (NAME, kind, size, rows, root(Hasher(kind), pieces)))
                    self.assertIsNone(check_description(found))
                    self.assertIs(fits(found, tuple(held for _, held in files)), True)

    def test_308_the_files_stay_in_their_order(self):
        files = ((path("b"), (1, 2)), (path("a"), (3, 4, 5)))
        self.assertEqual(describe(NAME, ("sum", 4), 4, files)[3], ((path("b"), 2), (path("a"), 3)))
        self.assertNotEqual(describe(NAME, ("sum", 4), 4, files)[4], describe(NAME, ("sum", 4), 4, files[::-1])[4])

    def test_308_files_that_are_no_tuple_of_pairs_with_octets(self):
        one = (path("a"), (1, 2))
        wrong = (
            None, 5, "ab", [one], one, True, (None,), (one, None), ((),), ((path("a"),),), (one + (1,),), (list(one),),
            ("ab",), ((path("a"), [1, 2]),), ((path("a"), "ab"),), ((path("a"), (256,)),), ((path("a"), (True,)),),
            ((path("a"), None),), ((path("a"), 2),), (one, (path("b"), (1, -1))), (one, (path("b"), ((1,),))),
        )
        for files in (*wrong, *[value for value in ANY_VALUES if value != ()]):
            with self.subTest(files), Unchanged(self, files):
                self.assertRaises(BadContent, describe, NAME, ("sum", 2), 4, files)
                # This comes ahead of all that may be wrong with the rest.
                self.assertRaises(BadContent, describe, (), None, 5, files)

    def test_308_what_point_302_says_of_the_lengths(self):
        one = ((path("a"), (1, 2)),)
        cases = (
            (((), ("sum", 2), 4, one), "name"), ((None, None, 5, ()), "name"), ((NAME, ("sum", 0), 5, one), "kind"),
            ((NAME, ["sum", 2], 4, one), "kind"), ((NAME, ("sum", 2), 5, one), "size"),
            ((NAME, ("sum", 2), None, ()), "size"),
            ((NAME, ("sum", 2), 4, ()), "files"), ((NAME, ("sum", 2), 4, one + one), "files"),
            ((NAME, ("sum", 2), 4, ((None, (1,)),)), "files"), ((NAME, ("sum", 2), 4, (("a", (1,)),)), "files"),
            ((NAME, ("sum", 2), 4, ((path("a"), ()),)), "total"),
            ((NAME, ("sum", 2), 4, ((path("a"), (0,) * 16385),)), "total"),
            ((NAME, ("sum", 2), 4, ((path("a"), (0,) * 16384),)), None),
        )
        for arguments, reason in cases:
            with self.subTest(reason=reason):
                self.assertEqual(reason_of(describe, *arguments), reason)

    def test_308_errors_come_before_any_digest(self):
        with mock.patch("swarmwhole.digests.Hasher.digest", side_effect=AssertionError("a digest")):
            self.assertEqual(reason_of(describe, NAME, ("sum", 2), 4, ((path("a"), ()),)), "total")
            self.assertEqual(reason_of(describe, NAME, ("sum", 2), 4, ()), "files")
            self.assertRaises(BadContent, describe, NAME, ("sum", 2), 4, None)


class CutAndJoin(unittest.TestCase):
    def test_308_pieces_and_back(self):
        for lengths in LENGTHS:
            for size in (4, 8, 16):
                description, contents = content(*lengths, size=size)
                with Unchanged(self, description, contents):
                    pieces = cut(description, contents)
                stream = stream_of(contents)
                due = tuple(stream[place:place + size] for place in range(0, len(stream), size))
                self.assertEqual(pieces, due)
                self.assertIsInstance(pieces, tuple)
                with Unchanged(self, description, pieces):
                    self.assertEqual(join(description, pieces), contents)
                self.assertIsInstance(join(description, pieces), tuple)

    def test_308_cut_and_join_ask_for_lengths_only(self):
        description, contents = content(5, 0, 6)
        other = tuple((9,) * len(held) for held in contents)
        self.assertEqual(cut(description, other), ((9,) * 4, (9,) * 4, (9,) * 3))
        self.assertEqual(join(description, ((9,) * 4, (9,) * 4, (9,) * 3)), other)

    def test_308_wrong_contents(self):
        description, contents = content(5, 0, 6)
        a, b, c = contents
        wrong = (
            list(contents), (a, b), (a, b, c, ()), (a, c), (), (a[:-1], b, c), (a + (1,), b, c), (a, (1,), c),
            (a, b, c[:-1]), (a, b, c + (0,)), (c, b, a), (list(a), b, c), (a, b, "abcdef"), (a, None, c),
            (a[:-1] + (256,), b, c), (a[:-1] + (True,), b, c), (a, b, c[:-1] + (None,)), (a[:-1], (1,), c), (5, 0, 6),
        )
        for value in (*wrong, *ANY_VALUES):
            with self.subTest(value), Unchanged(self, value):
                self.assertRaises(BadContent, cut, description, value)
                self.assertIs(fits(description, value), False)

    def test_308_wrong_pieces(self):
        description, contents = content(5, 0, 6)
        a, b, c = cut(description, contents)
        wrong = (
            [a, b, c], (a, b), (a, b, c, ()), (a, b, c, c), (), (a[:-1], b, c), (a, b + (1,), c), (a, b, c + (1,)),
            (a, b, c[:-1]), (a, b, ()), (a, c, b), (list(a), b, c), (a, "abcd", c), (a, None, c), (a, b, 3),
            (a, b[:-1] + (256,), c), (a, b[:-1] + (False,), c), (a + b[:1], b[1:], c),
        )
        for value in (*wrong, *ANY_VALUES):
            with self.subTest(value), Unchanged(self, value):
                self.assertRaises(BadContent, join, description, value)


class Fits(unittest.TestCase):
    def test_308_content_that_fits(self):
        for kind in (SHA, *SUMS):
            for lengths in ((1,), (5, 0, 6), (4, 4), (0, 0, 7)):
                description, contents = content(*lengths, kind=kind)
                with Unchanged(self, description, contents):
                    self.assertIs(fits(description, contents), True)

    def test_308_each_other_octet_makes_another_root(self):
        description, contents = content(5, 0, 6, kind=("sum", 8))
        for file, held in enumerate(contents):
            for place in range(len(held)):
                changed = held[:place] + ((held[place] + 1) % 256,) + held[place + 1:]
                self.assertIs(fits(description, contents[:file] + (changed,) + contents[file + 1:]), False)

    def test_308_the_same_stream_in_other_files(self):
        description, (a, b, c) = content(5, 0, 6)
        stream = a + b + c
        self.assertIs(fits(description, (stream[:6], (), stream[6:])), False)
        self.assertIs(fits(description, (stream[:5], (), stream[5:])), True)
        another = description[:4] + (((description[4][0] + 1) % 256,) + description[4][1:],)
        self.assertIs(fits(another, (a, b, c)), False)


class WholeFiles(unittest.TestCase):
    def test_309_any_part_of_the_pieces(self):
        for lengths in ((5, 0, 6), (3, 0, 6, 4), (1, 1, 1, 9), (16,), (4, 4, 4), (0, 13, 0)):
            description, contents = content(*lengths)
            pieces = cut(description, contents)
            for part in range(2 ** len(pieces)):
                had = {index: piece for index, piece in enumerate(pieces) if part >> index & 1}
                due = []
                for file, held in enumerate(contents):
                    first, behind = pieces_of(description, file)
                    due.append(held if all(index in had for index in range(first, behind)) else None)
                with Unchanged(self, description, had):
                    found = whole_files(description, had)
                self.assertEqual(found, tuple(due))
                self.assertIsInstance(found, tuple)

    def test_309_step_by_step(self):
        description, (a, b, c) = content(5, 0, 6)
        first, second, third = cut(description, (a, b, c))
        self.assertEqual(whole_files(description, {}), (None, (), None))
        self.assertEqual(whole_files(description, {0: first}), (None, (), None))
        self.assertEqual(whole_files(description, {1: second, 0: first}), (a, (), None))
        self.assertEqual(whole_files(description, {2: third, 1: second}), (None, (), c))
        self.assertEqual(whole_files(description, {2: third, 0: first}), (None, (), None))
        self.assertEqual(whole_files(description, {2: third, 0: first, 1: second}), (a, (), c))

    def test_309_the_pieces_are_taken_as_they_are(self):
        description, _ = content(5, 0, 6)
        self.assertEqual(whole_files(description, {0: (7,) * 4, 1: (8,) * 4}), ((7, 7, 7, 7, 8), (), None))

    def test_309_later_changes_have_no_effect(self):
        description, contents = content(5, 0, 6)
        had = dict(enumerate(cut(description, contents)))
        found = whole_files(description, had)
        had.clear()
        self.assertEqual(found, contents)


class WrongDescriptions(unittest.TestCase):
    def test_302_every_function_raises_this_first(self):
        for value, reason in WRONG_DESCRIPTIONS:
            with self.subTest(value), Unchanged(self, value):
                for function in (cut, join, fits):
                    for other in (None, (), ((1, 2, 3, 4, 5),)):
                        self.assertEqual(reason_of(function, value, other), reason)
                self.assertEqual(reason_of(whole_files, value, {}), reason)

    def test_descriptions_with_another_root_are_descriptions(self):
        description = raw(size=4, files=((path("a"), 5),))
        self.assertEqual((piece_count(description), piece_length(description, 1)), (2, 1))
        self.assertEqual(cut(description, (filling(5),)), (filling(5)[:4], filling(5)[4:]))
        self.assertIs(fits(description, (octets("12345"),)), False)


if __name__ == "__main__":
    unittest.main()

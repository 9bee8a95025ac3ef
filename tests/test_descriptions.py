"""Points 300 to 307, and the heading swarmwhole/descriptions.py of the interface."""

import unittest

from swarmwhole.descriptions import (
    check_description, identity, is_name, is_path, parse, piece_count, piece_length, pieces_of, places, text_of,
    total_length,
)
from swarmwhole.digests import digest
from swarmwhole.errors import BadContent, BadDescription
from swarmwhole.values import decode, encode
from tests.helpers import ANY_VALUES, Unchanged, octets, reason_of
from tests.samples import NAME, SHA, SUMS, WRONG_DESCRIPTIONS, content, path, raw

LENGTHS = ((1,), (4,), (5,), (8,), (9,), (3, 0, 6), (0, 0, 7, 0, 0), (4, 4, 4), (1,) * 9, (2, 17, 0, 1, 3), (40, 1),
           (0, 4), (4, 0), (0, 8, 0, 8, 0))


def files(*rows):
    return tuple((path(text), length) for text, length in rows)


def laid_out(description):
    """For each octet of the stream in order the index of its file and its place there."""
    return [(file, place) for file, (_, length) in enumerate(description[3]) for place in range(length)]


class Names(unittest.TestCase):
    def test_300_each_octet_of_a_name(self):
        good = set(b"abcdefghijklmnopqrstuvwxyz0123456789-._")
        for octet in range(256):
            self.assertIs(is_name((97, octet)), octet in good, octet)
            self.assertIs(is_name((octet,)), octet in good and octet != 46, octet)

    def test_300_names_have_1_to_40_octets(self):
        for count, due in ((0, False), (1, True), (2, True), (39, True), (40, True), (41, False), (100, False)):
            self.assertIs(is_name((97,) * count), due, count)

    def test_300_names_are_not_dots_alone(self):
        for count in (1, 2, 3, 40):
            self.assertIs(is_name((46,) * count), False)
        for text in (".a", "a.", "..a", ".-", "._", "-", "_", "--", "0", "-.-"):
            self.assertIs(is_name(octets(text)), True, text)

    def test_300_names_are_octets(self):
        for value in (*ANY_VALUES, "name", [97], ("a",), (97, True), (97, None), (97.0,), (97, 256), ((97,),)):
            with Unchanged(self, value):
                self.assertIs(is_name(value), False, value)

    def test_300_paths_have_1_to_8_parts(self):
        for count, due in ((0, False), (1, True), (2, True), (7, True), (8, True), (9, False), (50, False)):
            self.assertIs(is_path(((97,),) * count), due, count)
        self.assertIs(is_path(((97,) * 40,) * 8), True)

    def test_300_each_part_of_a_path_is_a_name(self):
        wrong = ((97,) * 41, (), (46,), (46, 46), (47,), (65,), [97], "a", None, 97, True)
        for part in wrong:
            self.assertIs(is_path((part,)), False, part)
            self.assertIs(is_path(((97,), part)), False, part)
            self.assertIs(is_path((part, (97,))), False, part)
        for value in (*ANY_VALUES, [(97,)], (97,), "a/b"):
            with Unchanged(self, value):
                self.assertIs(is_path(value), False, value)


class Descriptions(unittest.TestCase):
    def test_300_right_ones(self):
        right = (
            raw(), raw(name=(97,)), raw(name=(97,) * 40), raw(size=4), raw(size=65536), raw(size=1024),
            raw(files=files(("a", 1))), raw(files=files(("a", 0), ("b", 0), ("c", 1))),
            raw(files=files(("a/b", 1), ("a/c", 2), ("a-", 1), ("b", 3))),
            raw(files=files(("b", 1), ("a", 1))), raw(files=files(("a.b", 1), ("a/b", 1))),
            raw(files=tuple(((octets(f"f{place}"),), 1) for place in range(64))),
            raw(files=files(("/".join("abcdefgh"), 3))),
            raw(files=files(("a/a/a", 1), ("a/a/b", 1), ("a/aa", 1), ("aa", 1))),
        )
        for description in right:
            with self.subTest(description), Unchanged(self, description):
                self.assertIsNone(check_description(description))
        for kind in (SHA, *SUMS):
            self.assertIsNone(check_description(raw(kind=kind, root=(0,) * kind[1])))

    def test_302_form(self):
        for value in (*ANY_VALUES, list(raw()), raw()[:4], raw() + (1,), (raw(),), None, "abcde"):
            with self.subTest(value), Unchanged(self, value):
                self.assertEqual(reason_of(check_description, value), "form")

    def test_302_name(self):
        for name in ((), (97,) * 41, (46,), (46, 46), (65,), (32,), [97], "name", None, 5, True, ((97,),)):
            self.assertEqual(reason_of(check_description, raw(name=name)), "name", name)

    def test_302_kind(self):
        for kind in (("sha", 25), ("sum", 0), ("sum", 9), ("sum", True), ("md5", 2), ["sum", 2], "sum", None, (), 2,
                     ((115, 117, 109), 2)):
            self.assertEqual(reason_of(check_description, raw(kind=kind)), "kind", kind)

    def test_302_size(self):
        for size in (0, 1, 2, 3, 5, 6, 7, 9, 12, 100, 1023, 1025, 65535, 65537, 131072, 2 ** 40, -4, -8, True, False,
                     None, 8.0, "8", (8,)):
            self.assertEqual(reason_of(check_description, raw(size=size)), "size", size)
        for power in range(2, 17):
            self.assertIsNone(reason_of(check_description, raw(size=2 ** power)))

    def test_302_files(self):
        wrong = (
            (), [], [(path("a"), 1)], None, 5, "ab", True, (path("a"), 1), (None,), ((),), (path("a"),),
            ((path("a"),),),
            ((path("a"), 1, 1),), ([path("a"), 1],), (("a", 1),), (((), 1),), (((97,), 1),), (([(97,)], 1),),
            ((path("a"), -1),), ((path("a"), 2 ** 32 + 1),), ((path("a"), True),), ((path("a"), False), (path("b"), 1)),
            ((path("a"), None),), ((path("a"), 1.0),), ((path("a"), "1"),), ((path("a"), (1,)),),
            ((path("a/b/c/d/e/f/g/h/i"), 1),), (((octets("a" * 41),), 1),), ((path("a/.."), 1),),
            files(("a", 1), ("b", -1)), files(("a", 1)) + (None,),
            tuple(((octets(f"f{place}"),), 1) for place in range(65)),
        )
        for held in wrong:
            with self.subTest(held):
                self.assertEqual(reason_of(check_description, raw(files=held)), "files")

    def test_302_no_path_is_the_beginning_of_another_one(self):
        wrong = (
            (("a", 1), ("a", 1)), (("a", 1), ("a", 2)), (("a", 1), ("a/b", 1)), (("a/b", 1), ("a", 1)),
            (("a", 1), ("b", 1), ("a", 1)), (("a/b/c", 1), ("x", 1), ("a/b", 1)), (("a", 0), ("a", 0), ("b", 1)),
            (("a", 1), ("a-", 1), ("a/b", 1)), (("a/b", 1), ("a-/b", 1), ("a0", 1), ("a", 1)),
            (("b", 1), ("a/z/z", 1), ("a/b", 1), ("a/c", 1), ("a", 1)),
            (("a/b/c/d/e/f/g/h", 1), ("a/b/c/d/e/f/g", 1)),
        )
        for rows in wrong:
            with self.subTest(rows):
                self.assertEqual(reason_of(check_description, raw(files=files(*rows))), "files")

    def test_302_total(self):
        for size in (4, 8, 65536):
            most = 4096 * size
            for rows, due in (
                ((("a", 0),), "total"), ((("a", 0), ("b", 0)), "total"), ((("a", 1),), None), ((("a", most),), None),
                ((("a", most + 1),), "total"), ((("a", most), ("b", 1)), "total"), ((("a", most - 1), ("b", 1)), None),
                ((("a", 2 ** 32),), "total"), ((("a", 2 ** 32), ("b", 2 ** 32)), "total"),
            ):
                self.assertEqual(reason_of(check_description, raw(size=size, files=files(*rows))), due, (size, rows))

    def test_302_root(self):
        for root in ((), (1,), (1, 2, 3), (1, 256), (1, -1), (1, True), [1, 2], "ab", None, 2, (1, None), ((1,), (2,))):
            self.assertEqual(reason_of(check_description, raw(root=root)), "root", root)
        for kind in (SHA, *SUMS):
            for count in range(27):
                due = None if count == kind[1] else "root"
                self.assertEqual(reason_of(check_description, raw(kind=kind, root=(7,) * count)), due)

    def test_302_the_first_reason_that_applies(self):
        wrong = {"name": (), "kind": ("sum", 0), "size": 5, "files": (), "root": (1,)}
        order = ("name", "kind", "size", "files", "root")
        for first in range(5):
            for second in range(first, 5):
                items = {word: wrong[word] for word in (order[first], order[second])}
                self.assertEqual(reason_of(check_description, raw(**items)), order[first])
        empty = ((path("a"), 0),)
        self.assertEqual(reason_of(check_description, raw(files=empty, root=())), "total")
        for word in ("name", "kind", "size"):
            self.assertEqual(reason_of(check_description, raw(**{word: wrong[word], "files": empty})), word)
        self.assertEqual(reason_of(check_description, list(raw(name=()))), "form")

    def test_302_every_function_raises_this_first(self):
        for value, reason in WRONG_DESCRIPTIONS:
            with self.subTest(value), Unchanged(self, value):
                for function in (check_description, text_of, identity, total_length, piece_count):
                    self.assertEqual(reason_of(function, value), reason)
                for function in (piece_length, places, pieces_of):
                    for index in (0, -1, None, 99):
                        self.assertEqual(reason_of(function, value, index), reason)


class Texts(unittest.TestCase):
    def test_303_the_text(self):
        description = raw(name=octets("n"), kind=("sum", 2), size=8, root=(1, 2),
                          files=files(("a/bc", 5), ("x", 0)))
        due = octets("{o5:files[[[o1:ao2:bc]n5;][[o1:x]n0;]]o4:kind[o3:sumn2;]o4:nameo1:no4:rooto2:\x01\x02o4:sizen8;}")
        self.assertEqual(text_of(description), due)
        self.assertEqual(parse(due), description)
        sha = raw(kind=SHA, root=tuple(range(24)))
        self.assertEqual(parse(text_of(sha)), sha)
        self.assertIn("o4:kind[o3:shan24;]", "".join(map(chr, text_of(sha))))

    def test_304_there_and_back(self):
        for description in (raw(), raw(files=files(("b", 3), ("a/b", 0), ("a/c", 9))), content(5, 0, 9)[0],
                            content(9, kind=SHA)[0], raw(kind=("sum", 8), root=(255,) * 8)):
            found = parse(text_of(description))
            self.assertEqual(found, description)
            self.assertEqual(repr(found), repr(description))
            self.assertEqual(text_of(found), text_of(description))

    def test_304_what_is_not_octets(self):
        for value in (*ANY_VALUES, list(text_of(raw())), "".join(map(chr, text_of(raw()))), None, (256,), raw()):
            with self.subTest(value), Unchanged(self, value):
                self.assertEqual(reason_of(parse, value), "text")

    def test_304_no_text_of_a_value(self):
        text = text_of(raw())
        for wrong in (text[:-1], text[1:], text + (0,), text + text, (32,) + text, octets("{"), octets("n01;")):
            self.assertEqual(reason_of(parse, wrong), "text")

    def test_304_each_changed_octet(self):
        text = text_of(raw(files=files(("a/bc", 5), ("x", 0))))
        for place in range(len(text)):
            for octet in {text[place] ^ 1, (text[place] + 1) % 256, 48, 49, 57, 59, 93, 110, 255} - {text[place]}:
                changed = text[:place] + (octet,) + text[place + 1:]
                try:
                    found = parse(changed)
                except BadDescription:
                    continue
                self.assertEqual(text_of(found), changed)

    def value(self, **items):
        """The value of a description with other items."""
        pairs = dict(decode(text_of(raw()))[1])
        for key, item in items.items():
            pairs[octets(key)] = item
        return ("dict", tuple(sorted((key, item) for key, item in pairs.items() if item is not None)))

    def test_304_values_of_another_form(self):
        number, some, none = ("int", 8), ("octets", (97,)), ("list", ())
        path_value = ("list", (some,))
        wrong = [number, some, none, ("list", (self.value(),)), ("dict", ())]
        for key in ("files", "kind", "name", "root", "size"):
            wrong.append(self.value(**{key: None}))
            wrong.append(self.value(**{key: ("dict", ())}))
        wrong += [self.value(more=number), self.value(a=number), self.value(zebra=number),
                  self.value(name=None, nome=some)]
        wrong += [self.value(name=item) for item in (number, none)]
        wrong += [self.value(root=item) for item in (number, none)]
        wrong += [self.value(size=item) for item in (some, none)]
        wrong += [self.value(kind=item) for item in (
            number, some, none, ("list", (some,)), ("list", (some, number, number)), ("list", (number, some)),
            ("list", (some, some)), ("list", (number, number)), ("list", (none, number)))]
        wrong += [self.value(files=item) for item in (
            number, some, ("list", (number,)), ("list", (some,)), ("list", (none,)),
            ("list", (("list", (path_value,)),)),
            ("list", (("list", (path_value, number, number)),)), ("list", (("list", (number, path_value)),)),
            ("list", (("list", (some, number)),)), ("list", (("list", (path_value, some)),)),
            ("list", (("list", (("list", (number,)), number)),)), ("list", (("list", (("list", (none,)), number)),)),
            ("list", (("list", (path_value, number)), none)))]
        for value in wrong:
            with self.subTest(value):
                self.assertEqual(reason_of(parse, encode(value)), "text")

    def test_304_keys_in_another_order(self):
        text = "".join(map(chr, text_of(raw())))
        name = "o4:nameo17:" + "".join(map(chr, NAME))
        self.assertIn(name, text)
        moved = "{" + name + text.replace(name, "")[1:]
        self.assertEqual(reason_of(parse, octets(moved)), "text")

    def test_304_items_of_the_right_form_that_are_wrong(self):
        some, number = ("octets", (97,)), ("int", 8)
        path_value = ("list", (some,))
        file_value = ("list", (path_value, number))
        wrong = (
            ({"name": ("octets", ())}, "name"), ({"name": ("octets", (65,))}, "name"),
            ({"kind": ("list", (some, number))}, "kind"), ({"kind": ("list", (("octets", ()), number))}, "kind"),
            ({"kind": ("list", (("octets", (0, 255)), number))}, "kind"),
            ({"kind": ("list", (("octets", octets("sum")), ("int", 9)))}, "kind"),
            ({"kind": ("list", (("octets", octets("sha")), ("int", 23)))}, "kind"),
            ({"size": ("int", 0)}, "size"), ({"size": ("int", -8)}, "size"), ({"size": ("int", 10 ** 100)}, "size"),
            ({"files": ("list", ())}, "files"), ({"files": ("list", (file_value, file_value))}, "files"),
            ({"files": ("list", (("list", (("list", ()), number)),))}, "files"),
            ({"files": ("list", (("list", (path_value, ("int", -1))),))}, "files"),
            ({"files": ("list", (("list", (path_value, ("int", 0))),))}, "total"),
            ({"root": ("octets", (1,))}, "root"), ({"root": ("octets", ())}, "root"),
            ({"root": ("octets", ()), "name": ("octets", ()), "size": ("int", 0)}, "name"),
            ({"root": ("octets", ()), "size": ("int", 0)}, "size"),
            ({"name": ("octets", ()), "kind": ("list", (some, number))}, "name"),
        )
        for items, reason in wrong:
            with self.subTest(items):
                self.assertEqual(reason_of(parse, encode(self.value(**items))), reason)
        # Another form comes ahead of all other reasons.
        both = self.value(name=("octets", ()), size=("octets", ()))
        self.assertEqual(reason_of(parse, encode(both)), "text")

    def test_305_the_identity(self):
        for kind in (SHA, *SUMS):
            description = raw(kind=kind, root=(3,) * kind[1])
            self.assertEqual(identity(description), digest(kind, text_of(description)))
            self.assertEqual(len(identity(description)), kind[1])
        self.assertNotEqual(identity(raw(root=(1, 2))), identity(raw(root=(1, 3))))


class Places(unittest.TestCase):
    def test_301_total_and_pieces(self):
        for lengths in LENGTHS:
            for size in (4, 8, 16):
                description = content(*lengths, size=size)[0]
                total = sum(lengths)
                self.assertEqual(total_length(description), total)
                count = piece_count(description)
                self.assertTrue((count - 1) * size < total <= count * size)
                found = [piece_length(description, index) for index in range(count)]
                self.assertEqual(sum(found), total)
                self.assertEqual(found[:-1], [size] * (count - 1))
                self.assertTrue(1 <= found[-1] <= size)

    def test_301_the_most_and_the_fewest_pieces(self):
        for size in (4, 65536):
            description = raw(size=size, files=files(("a", 4096 * size)))
            self.assertEqual(piece_count(description), 4096)
            self.assertEqual(piece_length(description, 4095), size)
            self.assertEqual(places(description, 4095), ((0, 4095 * size, size),))
            self.assertRaises(BadContent, piece_length, description, 4096)
            less = raw(size=size, files=files(("a", 4096 * size - 1)))
            self.assertEqual((piece_count(less), piece_length(less, 4095)), (4096, size - 1))
            one = raw(size=size, files=files(("a", 1)))
            self.assertEqual((piece_count(one), piece_length(one, 0), total_length(one)), (1, 1, 1))

    def test_306_places(self):
        description = raw(size=4, files=files(("a", 3), ("b", 0), ("c", 6), ("d", 1)))
        self.assertEqual(places(description, 0), ((0, 0, 3), (2, 0, 1)))
        self.assertEqual(places(description, 1), ((2, 1, 4),))
        self.assertEqual(places(description, 2), ((2, 5, 1), (3, 0, 1)))

    def test_306_the_runs_are_the_octets_of_the_piece(self):
        for lengths in LENGTHS:
            for size in (4, 8, 16):
                description = content(*lengths, size=size)[0]
                stream = laid_out(description)
                for index in range(piece_count(description)):
                    found = places(description, index)
                    self.assertIsInstance(found, tuple)
                    octets_there = [(file, start + k) for file, start, count in found for k in range(count)]
                    self.assertEqual(octets_there, stream[index * size:(index + 1) * size])
                    named = [file for file, _, _ in found]
                    self.assertEqual(named, sorted(set(named)))
                    self.assertTrue(all(type(run) is tuple and run[2] > 0 for run in found))

    def test_307_pieces_of_files(self):
        description = raw(size=4, files=files(("a", 3), ("b", 0), ("c", 6), ("d", 1), ("e", 0), ("f", 2), ("g", 9)))
        due = ((0, 1), (0, 0), (0, 3), (2, 3), (0, 0), (2, 3), (3, 6))
        self.assertEqual(tuple(pieces_of(description, file) for file in range(7)), due)

    def test_307_the_pieces_in_whose_places_a_file_is(self):
        for lengths in LENGTHS:
            for size in (4, 8, 16):
                description = content(*lengths, size=size)[0]
                for file, length in enumerate(lengths):
                    there = [index for index in range(piece_count(description))
                             if file in [run[0] for run in places(description, index)]]
                    first, behind = pieces_of(description, file)
                    self.assertEqual(list(range(first, behind)), there)
                    if length == 0:
                        self.assertEqual((first, behind), (0, 0))

    def test_numbers_that_are_no_piece_and_no_file(self):
        description = content(5, 0, 4)[0]
        for index in (-1, 3, 4, 100, 2 ** 40, -3, True, False, None, 1.0, 0.0, "0", "", (), (0,), [0], []):
            with self.subTest(index), Unchanged(self, index):
                self.assertRaises(BadContent, piece_length, description, index)
                self.assertRaises(BadContent, places, description, index)
                self.assertRaises(BadContent, pieces_of, description, index)
        self.assertEqual([piece_length(description, index) for index in (0, 1, 2)], [4, 4, 1])
        self.assertEqual([pieces_of(description, file) for file in (0, 1, 2)], [(0, 2), (0, 0), (1, 3)])
        more = content(5, 3, size=4)[0]
        self.assertRaises(BadContent, pieces_of, more, 2)
        self.assertRaises(BadContent, places, more, 2)


if __name__ == "__main__":
    unittest.main()

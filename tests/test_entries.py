"""Points 1001 to 1003, and the heading swarmwhole/entries.py of the interface."""

import itertools
import unittest

from swarmwhole.content import cut
from swarmwhole.descriptions import text_of
from swarmwhole.digests import Hasher, digest
from swarmwhole.entries import check_entry, entry_identity, entry_of, entry_text
from swarmwhole.errors import BadEntry
from swarmwhole.leaves import leaves_of
from swarmwhole.values import decode, encode
from tests.helpers import ANY_VALUES, Unchanged, octets, told
from tests.samples import SHA, SUMS, WRONG_DESCRIPTIONS, content

KEYS = ("before", "description", "files", "leaves", "number")
NUMBER, SOME, EMPTY, NOTHING = ("int", 1), ("octets", (1, 2)), ("list", ()), ("dict", ())
ITEMS = ("number", "before", "description", "files", "leaves")


def entry(*counts, kind=("sum", 2), **items):
    """An entry for files of so many octets; other items in the places of its own."""
    description, contents = content(*(counts or (9, 0, 10)), kind=kind)
    hasher = Hasher(kind)
    whole = {
        "number": 0, "before": (), "description": description,
        "files": tuple(hasher.digest(held) for held in contents),
        "leaves": leaves_of(hasher, cut(description, contents)),
    }
    whole.update(items)
    return tuple(whole[name] for name in ITEMS)


# Items of an entry that are wrong, in the order of their reasons.
WRONG = (
    ("form", {"number": -1}), ("form", {"before": None}), ("description", {"description": None}),
    ("files", {"files": ()}), ("leaves", {"leaves": ()}),
)


class Entries(unittest.TestCase):
    def right(self, *entries):
        for value in entries:
            with self.subTest(value), Unchanged(self, value):
                self.assertIsNone(check_entry(value))

    def wrong(self, reason, *entries):
        for value in entries:
            with self.subTest(value), Unchanged(self, value):
                for function in (check_entry, entry_text, entry_identity):
                    self.assertEqual(told(function, value), (BadEntry, reason))

    def test_1001_entries(self):
        self.right(entry(), entry(3), entry(4), entry(40), entry(0, 5, 0), *[entry(kind=kind) for kind in (SHA, *SUMS)],
                   entry(number=1), entry(number=10 ** 30), entry(before=(0,)), entry(before=tuple(range(256))))

    def test_1001_the_digests_of_the_files_are_not_looked_at(self):
        self.right(entry(files=((1, 2), (3, 4), (0, 0))), entry(files=((0, 0),) * 3))

    def test_1002_form(self):
        whole = entry()
        self.wrong("form", *ANY_VALUES, whole[:4], whole + (0,), list(whole), (whole,), "abcde",
                   *[(value,) * 5 for value in ANY_VALUES])

    def test_1002_numbers(self):
        self.wrong("form", *[entry(number=number) for number in (
            -1, -10 ** 30, True, False, None, 0.0, 1.5, "0", (), (0,), [0])])

    def test_1002_before(self):
        self.wrong("form", *[entry(before=before) for before in (
            None, 0, True, "", "ab", [], [1, 2], (256,), (-1,), (True,), (None,), ((),), (1.0,), ("a",))])

    def test_1002_files_and_leaves_that_are_no_tuples(self):
        whole = entry()
        for wrong in (None, 0, True, "", "abc", [], 1.0):
            self.wrong("form", entry(files=wrong), entry(leaves=wrong))
        self.wrong("form", entry(files=list(whole[3])), entry(leaves=list(whole[4])))

    def test_1002_descriptions(self):
        self.wrong("description", *[entry(description=value) for value, _ in WRONG_DESCRIPTIONS],
                   *[entry(description=value) for value in ANY_VALUES],
                   entry(description=text_of(content(9, 0, 10)[0])))

    def test_1002_files(self):
        one, two, three = entry()[3]
        for wrong in ((), (one, two), (one, two, three, three), (one, two, three[:1]), (one + (0,), two, three),
                      (one, (), three), (one, list(two), three), (one, two, None), (one, two, (256, 0)),
                      (one, two, (True, 0)), (one, two, "ab"), (one, two, 5), ((one, two, three),)):
            self.wrong("files", entry(files=wrong))
        self.wrong("files", entry(kind=SHA, files=entry()[3]), entry(files=entry(kind=("sum", 3))[3]))

    def test_1002_leaves(self):
        leaves = entry()[4]
        other = (leaves[0][0] ^ 1,) + leaves[0][1:]
        for wrong in ((), leaves[:4], leaves[1:], leaves + leaves[:1], leaves + (leaves[4],), leaves[::-1],
                      (other,) + leaves[1:], leaves[:4] + (leaves[4][:1],), leaves[:4] + (leaves[4] + (0,),),
                      leaves[:4] + (list(leaves[4]),), leaves[:4] + (None,), leaves[:4] + ((256, 0),),
                      leaves[:4] + ((True, 1),), leaves[:4] + ("ab",), (leaves,), (0,) * 5):
            self.wrong("leaves", entry(leaves=wrong))

    def test_1002_leaves_that_make_the_root_with_what_fills_up_the_row(self):
        """The digest of the filling is no leaf, whatever root comes of it."""
        hasher = Hasher(("sum", 2))
        self.wrong("leaves", entry(leaves=entry()[4] + (hasher.digest((2,)),)),
                   entry(leaves=entry()[4] + (hasher.digest((2,)),) * 3))

    def test_1002_any_leaves_that_make_the_root(self):
        """With plain sums of one octet other leaves make the same root; they are right, too."""
        hasher, whole = Hasher(("sum", 1)), entry(8, kind=("sum", 1))
        found = [(one, two) for one in range(256) for two in range(256)
                 if hasher.digest((1, one, two)) == whole[2][4] and ((one,), (two,)) != whole[4]]
        self.assertGreater(len(found), 1)
        self.right(*[entry(8, kind=("sum", 1), leaves=((one,), (two,))) for one, two in found[:20]])

    def test_1002_the_first_reason_that_applies(self):
        for (reason, first), (_, second) in itertools.combinations(WRONG, 2):
            self.wrong(reason, entry(**first), entry(**first, **second))
        for reason, items in WRONG:
            self.wrong("form", entry(**{**items, "files": None}), entry(**{**items, "leaves": None}),
                       entry(**items) + (0,))
        self.wrong("form", entry(**{name: value for _, items in WRONG for name, value in items.items()}))


class Texts(unittest.TestCase):
    def test_1003_a_text_written_out(self):
        given = entry(3, number=12, before=(7, 255))
        _, _, description, ((a, b),), ((c, d),) = given
        described = text_of(description)
        due = (octets("{o6:beforeo2:") + (7, 255) + octets(f"o11:descriptiono{len(described)}:") + described
               + octets("o5:files[o2:") + (a, b) + octets("]o6:leaves[o2:") + (c, d) + octets("]o6:numbern12;}"))
        with Unchanged(self, given):
            self.assertEqual(entry_text(given), due)
        self.assertEqual(entry_of(due), given)

    def test_1003_there_and_back(self):
        for given in (entry(), entry(3), entry(40), entry(0, 0, 5), *[entry(kind=kind) for kind in (SHA, *SUMS)],
                      entry(number=10 ** 30), entry(before=tuple(range(256)))):
            text = entry_text(given)
            with Unchanged(self, text):
                found = entry_of(text)
            self.assertEqual(repr(found), repr(given))
            self.assertEqual(entry_text(found), text)

    def test_1003_the_keys(self):
        self.assertEqual([key for key, _ in decode(entry_text(entry()))[1]], [octets(key) for key in KEYS])

    def test_1003_the_identity(self):
        for kind in (SHA, *SUMS):
            given = entry(kind=kind, number=3, before=(1,))
            with Unchanged(self, given):
                found = entry_identity(given)
            self.assertEqual(found, digest(kind, entry_text(given)))
            self.assertEqual(len(found), kind[1])

    def value(self, **items):
        """The value of an entry with other items; without those that are None."""
        pairs = dict(decode(entry_text(entry()))[1])
        for key, item in items.items():
            pairs[octets(key)] = item
        return ("dict", tuple(sorted((key, item) for key, item in pairs.items() if item is not None)))

    def raises(self, reason, *texts):
        for text in texts:
            with self.subTest(text), Unchanged(self, text):
                self.assertEqual(told(entry_of, text), (BadEntry, reason))

    def test_1003_what_is_not_octets(self):
        text = entry_text(entry())
        self.raises("text", *ANY_VALUES, list(text), "".join(map(chr, text)), entry(), text[:-1] + (True,), (256,))

    def test_1003_no_text_of_a_value(self):
        text = entry_text(entry())
        self.raises("text", *[text[:place] for place in range(len(text))], text + (0,), text + text, octets("n01;"))

    def test_1003_keys_left_out_added_doubled_and_out_of_order(self):
        for key in KEYS:
            self.raises("text", encode(self.value(**{key: None})),
                        encode(self.value(**{key: None, key.upper(): dict(self.value()[1])[octets(key)]})))
        for key in ("a", "root", "zebra", "filet", "numbers"):
            self.raises("text", encode(self.value(**{key: NUMBER})))
        parts = [octets(f"o{len(key)}:") + key + encode(item) for key, item in self.value()[1]]
        for order in ((0, 1, 2, 3, 4, 4), (0, 0, 1, 2, 3, 4), (1, 0, 2, 3, 4), (4, 3, 2, 1, 0), (0, 1, 3, 2, 4)):
            self.raises("text", octets("{") + sum((parts[place] for place in order), ()) + octets("}"))
        self.assertEqual(entry_of(octets("{") + sum(parts, ()) + octets("}")), entry())

    def test_1003_values_of_another_form(self):
        wrong = [NUMBER, SOME, EMPTY, NOTHING, ("list", (self.value(),))]
        wrong += [self.value(**{key: item}) for key in ("before", "description") for item in (NUMBER, EMPTY, NOTHING)]
        wrong += [self.value(number=item) for item in (SOME, EMPTY, NOTHING)]
        wrong += [self.value(**{key: item}) for key in ("files", "leaves") for item in (
            NUMBER, SOME, NOTHING, ("list", (NUMBER,)), ("list", (SOME, EMPTY)), ("list", (("list", (SOME,)),)))]
        wrong.append(self.value(description=decode(text_of(entry()[2]))))
        self.raises("text", *[encode(value) for value in wrong])

    def test_1003_descriptions(self):
        described = text_of(entry()[2])
        # Also the texts of values, and of values of its form that are no description.
        wrong = [described[:place] for place in range(0, len(described), 5)]
        wrong += [described + (0,), octets("n5;"), octets("{}"), described[::-1]]
        pairs = dict(decode(described)[1])
        for key, item in (("size", ("int", 5)), ("name", ("octets", ())), ("root", ("octets", (1,))), ("size", SOME)):
            wrong.append(encode(("dict", tuple(sorted({**pairs, octets(key): item}.items())))))
        self.raises("description", *[encode(self.value(description=("octets", text))) for text in wrong])

    def test_1003_the_right_form_and_a_wrong_entry(self):
        leaves, files = self.value()[1][3][1], self.value()[1][2][1]
        for items, reason in (
            ({"number": ("int", -1)}, "form"), ({"files": EMPTY}, "files"), ({"leaves": EMPTY}, "leaves"),
            ({"files": ("list", (SOME, SOME, ("octets", (1,))))}, "files"),
            ({"leaves": ("list", (SOME,) * 5)}, "leaves"),
            ({"files": ("list", files[1] + (SOME,))}, "files"), ({"leaves": ("list", leaves[1][1:])}, "leaves"),
            ({"number": ("int", -1), "files": EMPTY}, "form"), ({"files": EMPTY, "leaves": EMPTY}, "files"),
            ({"description": ("octets", text_of(content(3)[0]))}, "files"),
        ):
            self.raises(reason, encode(self.value(**items)))

    def test_1003_which_reason_comes_first(self):
        broken = {"description": ("octets", (1, 2))}
        self.raises("text", encode(self.value(**broken, number=SOME)), encode(self.value(**broken, files=SOME)),
                    encode(self.value(**broken, leaves=("list", (NUMBER,)))),
                    encode(self.value(**broken, before=EMPTY)))
        self.raises("description", encode(self.value(**broken, number=("int", -1))),
                    encode(self.value(**broken, files=EMPTY, leaves=EMPTY)))

    def test_1003_each_changed_octet(self):
        text = entry_text(entry(3))
        for place in range(len(text)):
            for octet in {text[place] ^ 1, (text[place] + 1) % 256, 48, 57, 59, 93, 110} - {text[place]}:
                changed = text[:place] + (octet,) + text[place + 1:]
                try:
                    found = entry_of(changed)
                except BadEntry:
                    continue
                self.assertEqual(entry_text(found), changed)


if __name__ == "__main__":
    unittest.main()

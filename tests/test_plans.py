"""Points 1008 and 1009, and the heading swarmwhole/plans.py of the interface."""

import random
import unittest

from swarmwhole.content import cut, whole_files
from swarmwhole.descriptions import piece_count, piece_length, places
from swarmwhole.digests import Hasher
from swarmwhole.leaves import proofs_of
from swarmwhole.plans import fetched, made, plan
from swarmwhole.store import fits
from tests.drawn import collision
from tests.helpers import Unchanged
from tests.samples import NAME, SHA, SUMS, filling, path
from tests.versions import changed, files, history

FETCH = ("fetch",)
A, B, C, D, E = (1, 2, 3, 4), (5, 6, 7, 8), (9, 10, 11, 12), (13, 14, 15, 16), (17, 18, 19, 20)


def one(**held):
    """The entry of a version with these files, and its pieces."""
    version = files(**held)
    (entry,) = history(version)
    return entry, cut(entry[2], tuple(octets for _, octets in version))


def plan_as_told(old, had, new):
    """The rows as point 1008 tells of them, each with its octets or None."""
    hasher, description = Hasher(new[2][1]), new[2]
    whole = whole_files(old[2], had)

    def equal(octets, index):
        return len(octets) == piece_length(description, index) and hasher.digest((0,) + octets) == new[4][index]

    def kept_as(file):
        for number, octets in enumerate(whole):
            if octets is not None and len(octets) == description[3][file][1] and hasher.digest(octets) == new[3][file]:
                return number
        return None

    rows = []
    for index in range(piece_count(description)):
        runs = places(description, index)
        sources = [kept_as(file) for file, _, _ in runs]
        row, octets = FETCH, None
        if any(equal(held, index) for held in had.values()):
            least = min(place for place, held in had.items() if equal(held, index))
            row, octets = ("piece", least), had[least]
        elif None not in sources:
            octets = sum((whole[number][start:start + count]
                          for number, (_, start, count) in zip(sources, runs)), ())
            row = ("files", tuple((number, *run[1:]) for number, run in zip(sources, runs)))
            if not equal(octets, index):
                row, octets = FETCH, None
        if row == FETCH:
            twins = [place for place in range(index) if rows[place][0] == FETCH and new[4][place] == new[4][index]
                     and piece_length(description, place) == piece_length(description, index)]
            row = ("twin", twins[0]) if twins else FETCH
        rows.append((row, octets))
    return rows


class PlanCase(unittest.TestCase):
    def check(self, old, had, new, *due):
        """The rows, and what follows from them; returns the rows."""
        with Unchanged(self, old, had, new):
            rows = plan(old, had, new)
            octets = made(old, had, new)
        told = plan_as_told(old, had, new)
        self.assertEqual(rows, tuple(row for row, _ in told))
        self.assertEqual(octets, {index: held for index, (_, held) in enumerate(told) if held is not None})
        if due:
            self.assertEqual(rows, due)
        self.follows(new, rows, octets)
        return rows

    def follows(self, new, rows, octets):
        """Point 1009."""
        hasher = Hasher(new[2][1])
        ways = proofs_of(hasher, new[4])
        for index, held in octets.items():
            self.assertIn(rows[index][0], ("piece", "files"))
            self.assertIs(fits(hasher, new[2], index, held, ways[index]), True)
        others = [index for index, row in enumerate(rows) if row[0] in ("twin", "fetch")]
        self.assertEqual(sorted([*octets, *others]), list(range(len(rows))))
        marks = {(piece_length(new[2], index), new[4][index]) for index in others}
        self.assertEqual(len(fetched(rows)), len(marks))
        self.assertEqual(fetched(rows), tuple(index for index in others if rows[index] == FETCH))


def there(pieces, *indexes):
    return {index: pieces[index] for index in indexes}


class Rows(PlanCase):
    def test_1008_pieces(self):
        old, pieces = one(a=A + B + C)
        new, _ = one(a=C + D + A)
        self.check(old, there(pieces, 0, 1, 2), new, ("piece", 2), FETCH, ("piece", 0))
        self.check(old, there(pieces, 1, 2), new, ("piece", 2), FETCH, FETCH)
        self.check(old, {}, new, FETCH, FETCH, FETCH)

    def test_1008_equal_old_pieces_the_least_that_is_there(self):
        old, pieces = one(a=A + B + A + A)
        new, _ = one(a=B + A)
        self.check(old, there(pieces, 0, 1, 2, 3), new, ("piece", 1), ("piece", 0))
        self.check(old, there(pieces, 3, 2), new, FETCH, ("piece", 2))
        self.check(old, there(pieces, 3), new, FETCH, ("piece", 3))
        # In whatever order they come.
        self.check(old, {3: A, 0: A, 2: A}, new, FETCH, ("piece", 0))

    def test_1008_one_old_piece_for_several(self):
        old, pieces = one(a=A + B)
        self.check(old, there(pieces, 0), one(a=A + C + A)[0], ("piece", 0), FETCH, ("piece", 0))

    def test_1008_the_last_shorter_piece(self):
        old, pieces = one(a=A + B + C[:2])
        self.check(old, there(pieces, 0, 1, 2), one(a=B + C[:2])[0], ("piece", 1), ("piece", 2))
        self.check(old, there(pieces, 0, 1, 2), one(a=B + C[:3])[0], ("piece", 1), FETCH)
        self.check(old, there(pieces, 0, 1, 2), one(a=A + C)[0], ("piece", 0), FETCH)
        # A piece of the same digest has to have the same length, too.
        (short,), (long,) = history(files(a=(31,))), history(files(a=(0, 31)))
        self.check(changed(short), {0: (31,)}, changed(long, leaves=short[4]), FETCH)

    def test_1008_files_that_lie_otherwise(self):
        old, pieces = one(a=A + B, b=(50, 51, 52))
        new, _ = one(z=(60,), a=A + B, b=(50, 51, 52))
        self.check(old, there(pieces, 0, 1, 2), new, FETCH, ("files", ((0, 3, 4),)), ("files", ((0, 7, 1), (1, 0, 3))))

    def test_1008_places_of_several_files(self):
        old, pieces = one(b=(50, 51, 52), a=(40, 41, 42, 43, 44, 45))
        new, _ = one(a=(40, 41, 42, 43, 44, 45), b=(50, 51, 52))
        every = there(pieces, 0, 1, 2)
        self.check(old, every, new, ("files", ((1, 0, 4),)), ("files", ((1, 4, 2), (0, 0, 2))), ("files", ((0, 2, 1),)))
        # One file of a piece is not enough.
        self.check(old, there(pieces, 0), new, FETCH, FETCH, ("files", ((0, 2, 1),)))
        self.check(old, there(pieces, 1, 2), new, FETCH, FETCH, FETCH)

    def test_1008_a_piece_comes_ahead_of_files(self):
        old, pieces = one(a=A + B)
        self.check(old, there(pieces, 0, 1), one(a=A + B, b=C)[0], ("piece", 0), ("piece", 1), FETCH)
        self.check(old, there(pieces, 0, 1), old, ("piece", 0), ("piece", 1))

    def test_1008_a_file_that_is_kept_as_several(self):
        held = (40, 41, 42, 43, 44)
        old, pieces = one(a=held)
        new, _ = one(x=(9,), a=held, b=held)
        self.check(old, there(pieces, 0, 1), new, FETCH, ("files", ((0, 3, 2), (0, 0, 2))), ("files", ((0, 2, 3),)))

    def test_1008_the_least_of_several_old_files(self):
        held = (40, 41, 42, 43, 44)
        old, pieces = one(x=(1,), a=held, y=(2,), b=held)
        new, _ = one(a=held, x=(7,))
        self.check(old, there(pieces, 0, 1, 2), new, ("files", ((1, 0, 4),)), FETCH)
        # The least one that is whole: the first piece is not there.
        self.check(old, there(pieces, 1, 2), new, ("files", ((3, 0, 4),)), FETCH)

    def test_1008_a_file_of_another_length_or_other_octets_is_not_kept(self):
        held = (40, 41, 42, 43, 44)
        old, pieces = one(x=(1,), a=held)
        for other in (held + (0,), held[:4], held[:4] + (45,)):
            rows = self.check(old, there(pieces, 0, 1), one(a=other)[0])
            self.assertNotIn("files", [row[0] for row in rows])

    def test_1008_files_whose_digest_is_not_that_of_their_octets(self):
        """The entry says what the digests are; the leaf of the piece is asked for all the same."""
        old, pieces = one(x=(1,), a=A)
        new, _ = one(a=A, y=(2,))
        every = there(pieces, 0, 1)
        self.assertEqual(plan(old, every, new), (("files", ((1, 0, 4),)), FETCH))
        self.check(old, every, changed(new, files=((0, 0), new[3][1])), FETCH, FETCH)
        other, _ = one(a=B, y=(2,))
        self.check(old, every, changed(other, files=new[3]), FETCH, FETCH)

    def test_1008_empty_files(self):
        old, pieces = one(a=(), b=A + B, c=())
        new, _ = one(x=(1,), a=(), b=A + B, c=())
        self.check(old, there(pieces, 0, 1), new, FETCH, ("files", ((1, 3, 4),)), ("files", ((1, 7, 1),)))
        self.check(old, {}, new, FETCH, FETCH, FETCH)

    def test_1008_twins(self):
        old, pieces = one(a=A)
        new, _ = one(a=B + C + B + A + C + B)
        self.check(old, there(pieces, 0), new, FETCH, FETCH, ("twin", 0), ("piece", 0), ("twin", 1), ("twin", 0))
        self.check(old, {}, new, FETCH, FETCH, ("twin", 0), FETCH, ("twin", 1), ("twin", 0))

    def test_1008_twins_have_the_same_length(self):
        (entry,) = history(files(a=(0, 0, 0, 0, 31)))
        leaf = Hasher(("sum", 2)).digest((0, 1, 2, 3, 4))
        self.check(entry, {}, changed(entry, leaves=(leaf, leaf)), FETCH, FETCH)

    def test_1008_a_piece_of_a_kept_file_comes_ahead_of_a_twin(self):
        old, pieces = one(x=(1,), a=A + B)
        new, _ = one(c=A, a=A + B)
        self.check(old, there(pieces, 0, 1, 2), new,
                   FETCH, ("files", ((1, 0, 4),)), ("files", ((1, 4, 4),)))
        # Now the piece is no piece of a kept file first, and its twin is one.
        new, _ = one(a=A + B, c=A)
        self.check(old, there(pieces, 0, 1, 2), new,
                   ("files", ((1, 0, 4),)), ("files", ((1, 4, 4),)), FETCH)

    def test_1008_a_new_version_that_is_the_old_one(self):
        for held in ({"a": A + B + C}, {"a": 9, "b": (), "c": 10}, {"a": 3}):
            old, pieces = one(**held)
            every = dict(enumerate(pieces))
            self.check(old, every, old, *[("piece", pieces.index(piece)) for piece in pieces])
            self.assertEqual(made(old, every, old), every)
            self.assertEqual(fetched(plan(old, every, old)), ())
            self.assertEqual(fetched(plan(old, {}, old)),
                             tuple(index for index, piece in enumerate(pieces) if piece not in pieces[:index]))

    def test_1008_kinds_that_differ(self):
        held = files(a=A + B, b=(50, 51))
        for kind in (SHA, *SUMS):
            for other in (("sum", 2), SHA):
                (old,), (new,) = history(held, kind=kind), history(files(x=(1,), a=A + B, b=(50, 51)), kind=other)
                pieces = cut(old[2], tuple(octets for _, octets in held))
                every = dict(enumerate(pieces))
                self.check(old, every, new, FETCH, ("files", ((0, 3, 4),)), ("files", ((0, 7, 1), (1, 0, 2))))
                (same,) = history(held, kind=other)
                self.check(old, every, same, ("piece", 0), ("piece", 1), ("piece", 2))

    def test_1008_sizes_that_differ(self):
        held = files(a=A + B + C + D + E)
        (old,), (new,) = history(held, size=4), history(held, size=8)
        pieces = cut(old[2], (A + B + C + D + E,))
        self.check(old, dict(enumerate(pieces)), new, ("files", ((0, 0, 8),)), ("files", ((0, 8, 8),)), ("piece", 4))
        self.check(old, there(pieces, 0, 1, 4), new, FETCH, FETCH, ("piece", 4))

    def test_1008_pieces_that_collide(self):
        """What is there may have the leaf of a new piece by a collision; then it is made of it."""
        (old,), (new,) = history(files(a=(1, 100, 3, 4))), history(files(a=collision((1, 100, 3, 4))))
        self.check(old, {0: (1, 100, 3, 4)}, new, ("piece", 0))
        self.assertEqual(made(old, {0: (1, 100, 3, 4)}, new), {0: (1, 100, 3, 4)})

    def test_fetched(self):
        self.assertEqual(fetched(()), ())
        self.assertEqual(fetched((FETCH, ("twin", 0), ("piece", 3), FETCH, ("files", ((0, 0, 1),)), FETCH)), (0, 3, 5))


class Search(PlanCase):
    def draw(self, chance, kind):
        """An entry for a few files of few octets, with its pieces."""
        held = []
        for place in range(chance.randrange(1, 5)):
            octets = tuple(chance.randrange(2) for _ in range(chance.randrange(8)))
            if held and chance.randrange(3) == 0:
                octets = chance.choice(held)
            held.append(octets)
        held[0] = held[0] or (1,)
        version = tuple((path(f"f{place}"), octets) for place, octets in enumerate(held))
        (entry,) = history(version, kind=kind, size=chance.choice((4, 4, 8)))
        return entry, cut(entry[2], tuple(held))

    def test_1008_no_row_is_another_one(self):
        chance = random.Random(1008)
        seen = {"piece": 0, "files": 0, "twin": 0, "fetch": 0}
        for _ in range(3000):
            (old, pieces), (new, _) = (self.draw(chance, chance.choice((("sum", 1), ("sum", 2)))) for _ in range(2))
            had = {index: piece for index, piece in enumerate(pieces) if chance.randrange(4) > 0}
            for row in self.check(old, had, new):
                seen[row[0]] += 1
        self.assertGreater(min(seen.values()), 50)

    def test_1009_larger_versions(self):
        chance = random.Random(1009)
        for _ in range(40):
            held = [filling(chance.randrange(40), chance.randrange(1, 9)) for _ in range(8)]
            versions = []
            for _ in range(2):
                chance.shuffle(held)
                versions.append(tuple((path(f"f{place}"), octets) for place, octets in enumerate(held[:6])) +
                                ((path("last"), (1,)),))
            old, new = history(*versions, kind=("sum", 8), name=NAME)
            pieces = cut(old[2], tuple(octets for _, octets in versions[0]))
            self.check(old, dict(enumerate(pieces)), new)


if __name__ == "__main__":
    unittest.main()

"""Points 208 to 211, and the heading swarmwhole/trees.py of the interface."""

import random
import unittest

from swarmwhole.digests import Hasher
from swarmwhole.errors import BadProof
from swarmwhole.trees import depth, fits, fold, is_proof, parted, proofs, root
from tests.as_told import HASHERS, leaves_as_told, proof_as_told, rows_of, top_as_told
from tests.helpers import ANY_VALUES, Unchanged
from tests.samples import filling


def way_as_told(hasher, index, piece, proof):
    texts = [(0,) + piece]
    for digest in proof:
        below = hasher.digest(texts[-1])
        texts.append((1,) + (digest + below if index % 2 else below + digest))
        index //= 2
    return texts


def moved(octets):
    """Other octets with the same sum, if there are any of this simple form."""
    a, b, *rest = octets
    if b >= 31 and a < 255:
        return (a + 1, b - 31, *rest)
    if b <= 224 and a > 0:
        return (a - 1, b + 31, *rest)
    return octets


class Trees(unittest.TestCase):
    def test_208_depth(self):
        due = {0: 0, 1: 0, 2: 1, 3: 2, 4: 2, 5: 3, 8: 3, 9: 4, 16: 4, 17: 5, 4095: 12, 4096: 12, 4097: 13}
        for count, found in due.items():
            self.assertEqual(depth(count), found, count)
        for count in range(1, 300):
            self.assertTrue(2 ** depth(count) >= count and (count == 1 or 2 ** (depth(count) - 1) < count))

    def test_208_root_of_small_trees_step_by_step(self):
        for hasher in HASHERS:
            a, b, c = (hasher.digest((0,) + piece) for piece in ((1,), (2, 3), ()))
            fill = hasher.digest((2,))
            node = hasher.digest((1,) + a + b)
            self.assertEqual(root(hasher, ()), fill)
            self.assertEqual(root(hasher, [(1,)]), a)
            self.assertEqual(root(hasher, ((1,), (2, 3))), node)
            other = hasher.digest((1,) + c + fill)
            self.assertEqual(root(hasher, [(1,), (2, 3), ()]), hasher.digest((1,) + node + other))
            self.assertEqual(proofs(hasher, [(1,), (2, 3), ()]), ((b, other), (a, other), (fill, node)))

    def test_208_209_none_to_nine_pieces(self):
        for hasher in HASHERS:
            for count in range(10):
                for pieces in rows_of(count):
                    leaves = leaves_as_told(hasher, pieces)
                    self.assertEqual(root(hasher, pieces), top_as_told(hasher, leaves))
                    self.assertEqual(root(hasher, list(pieces)), root(hasher, pieces))
                    found = proofs(hasher, pieces)
                    self.assertEqual(found, proofs(hasher, list(pieces)))
                    self.assertEqual(found, tuple(proof_as_told(hasher, leaves, index) for index in range(count)))

    def test_210_each_proof_folds_to_the_root(self):
        for hasher in HASHERS:
            for count in range(10):
                for pieces in rows_of(count):
                    top = root(hasher, pieces)
                    for index, proof in enumerate(proofs(hasher, pieces)):
                        self.assertEqual(fold(hasher, index, pieces[index], proof), top)
                        self.assertIs(is_proof(hasher, count, proof), True)
                        self.assertIs(fits(hasher, top, count, index, pieces[index], proof), True)

    def test_210_the_side_is_the_bit_of_the_index(self):
        for hasher in HASHERS:
            one, other = hasher.digest((7,)), hasher.digest((8,))
            for index in range(8):
                found = fold(hasher, index, (5, 6), (one, other))
                self.assertEqual(found, hasher.digest(way_as_told(hasher, index, (5, 6), (one, other))[-1]))
            self.assertEqual(fold(hasher, 3, (5,), ()), hasher.digest((0, 5)))
            self.assertEqual(fold(hasher, 0, (5,), (one,)), hasher.digest((1,) + hasher.digest((0, 5)) + one))
            self.assertEqual(fold(hasher, 1, (5,), (one,)), hasher.digest((1,) + one + hasher.digest((0, 5))))

    def test_3_lists_of_pieces_stay_as_they_are(self):
        hasher = HASHERS[0]
        pieces = [(1,), (2,), (3,)]
        with Unchanged(self, pieces):
            top, found = root(hasher, pieces), proofs(hasher, pieces)
            parted(hasher, pieces, 1, pieces[1], found[1])
        pieces.append((4,))
        self.assertEqual(found, proofs(hasher, pieces[:3]))
        self.assertEqual(top, root(hasher, pieces[:3]))


class Forms(unittest.TestCase):
    def test_209_is_proof(self):
        for hasher in HASHERS:
            digest = hasher.digest((1,))
            for count in range(10):
                for length in range(6):
                    self.assertIs(is_proof(hasher, count, (digest,) * length), length == depth(count), (count, length))
            for wrong in ([digest, digest], (digest, digest[:-1]), (digest, digest + (0,)), (digest, list(digest)),
                          (digest, None), (digest, (256,) * hasher.size), (True, digest), digest, "ab", None, 2):
                self.assertIs(is_proof(hasher, 4, wrong), False, wrong)
            for value in ANY_VALUES:
                with Unchanged(self, value):
                    self.assertIs(is_proof(hasher, 4, value), False)
                    self.assertIs(is_proof(hasher, 1, value), value == () and isinstance(value, tuple))

    def test_fits_for_any_index_piece_and_proof(self):
        for hasher in HASHERS:
            pieces = rows_of(5)[0]
            top = root(hasher, pieces)
            found = proofs(hasher, pieces)
            for value in ANY_VALUES:
                # The integers 0 and 1 are indexes, and () is octets: beside what is wrong they do not fit either.
                with self.subTest(value), Unchanged(self, value):
                    for index, piece, proof in ((value, pieces[2], found[2]), (2, value, found[2]),
                                                (2, pieces[2], value)):
                        self.assertIs(fits(hasher, top, 5, index, piece, proof), False)
                        self.assertRaises(BadProof, parted, hasher, pieces, index, piece, proof)
            self.assertIs(fits(hasher, top, 5, True, pieces[1], found[1]), False)
            self.assertIs(fits(hasher, top, 5, 1.0, pieces[1], found[1]), False)
            self.assertIs(fits(hasher, top, 5, 1, list(pieces[1]), found[1]), False)
            self.assertIs(fits(hasher, top, 5, 1, pieces[1], list(found[1])), False)
            self.assertRaises(BadProof, parted, hasher, pieces, True, pieces[1], found[1])

    def test_an_index_beyond_the_pieces_does_not_fit(self):
        hasher = HASHERS[0]
        for count in (1, 3, 5):
            pieces = rows_of(count)[0]
            top, found = root(hasher, pieces), proofs(hasher, pieces)
            width = 2 ** depth(count)
            for index in range(count):
                # Their lowest bits are those of the right index, so they fold to the root.
                for other in (index + width, index - width, index + 2 * width):
                    self.assertEqual(fold(hasher, index + width, pieces[index], found[index]), top)
                    self.assertIs(fits(hasher, top, count, other, pieces[index], found[index]), False)
                    self.assertRaises(BadProof, parted, hasher, pieces, other, pieces[index], found[index])
        self.assertIs(fits(hasher, root(hasher, ()), 0, 0, (), ()), False)
        self.assertRaises(BadProof, parted, hasher, (), 0, (), ())

    def test_a_place_behind_the_pieces_does_not_fit(self):
        # The filling of the row is the digest of the octet 2: no piece stands there, whatever folds to it.
        hasher = Hasher(("sum", 1))
        pieces = ((1,), (2,), (3,))
        top, found = root(hasher, pieces), proofs(hasher, pieces)
        forged = (hasher.digest((0,) + pieces[2]), found[2][1])
        piece = next((one,) for one in range(256) if hasher.digest((0, one)) == hasher.digest((2,)))
        self.assertEqual(fold(hasher, 3, piece, forged), top)
        self.assertIs(fits(hasher, top, 3, 3, piece, forged), False)
        self.assertIs(fits(hasher, top, 4, 3, piece, forged), True)

    def test_another_index_piece_proof_or_root_does_not_fit(self):
        for hasher in HASHERS:
            for count in range(1, 10):
                pieces = rows_of(count)[0]
                top, found = root(hasher, pieces), proofs(hasher, pieces)
                for index in range(count):
                    piece, proof = pieces[index], found[index]
                    wrong = [(other, piece, proof) for other in range(count) if other != index]
                    wrong += [(index, other, proof) for other in pieces if other != piece]
                    wrong += [(index, piece[:-1], proof), (index, piece + (0,), proof), (index, (0,) + piece, proof)]
                    wrong += [(index, piece, other) for other in found if other != proof]
                    wrong += [(index, piece, proof + (top,)), (index, piece, (top,) + proof)]
                    if proof:
                        wrong += [(index, piece, proof[:-1]), (index, piece, proof[1:])]
                        changed = ((proof[0][0] + 1) % 256,) + proof[0][1:]
                        wrong += [(index, piece, (changed,) + proof[1:])]
                    if len(proof) > 1:
                        wrong += [(index, piece, proof[::-1])]
                    for case in wrong:
                        self.assertIs(fits(hasher, top, count, *case), False)
                        self.assertRaises(BadProof, parted, hasher, pieces, *case)
                    self.assertIs(fits(hasher, hasher.digest((9, 9)), count, index, piece, proof), False)


class Forged(unittest.TestCase):
    def check(self, hasher, pieces, index, piece, proof):
        """The pair must be the first one on the two ways, the true text ahead."""
        self.assertIs(fits(hasher, root(hasher, pieces), len(pieces), index, piece, proof), True)
        true_way = way_as_told(hasher, index, pieces[index], proofs(hasher, pieces)[index])
        other_way = way_as_told(hasher, index, piece, proof)
        pairs = [(one, other) for one, other in zip(true_way, other_way)
                 if one != other and hasher.digest(one) == hasher.digest(other)]
        with Unchanged(self, pieces):
            self.assertEqual(parted(hasher, pieces, index, piece, proof), pairs[0])
        return len(pairs)

    def test_211_nothing_is_forged(self):
        for hasher in HASHERS:
            for count in range(1, 10):
                for pieces in rows_of(count):
                    for index, proof in enumerate(proofs(hasher, pieces)):
                        self.assertIsNone(parted(hasher, pieces, index, pieces[index], proof))

    def test_211_forged_pieces(self):
        for size in (1, 2):
            hasher = Hasher(("sum", size))
            pieces = tuple(filling(4, place) for place in range(5))
            for index, proof in enumerate(proofs(hasher, pieces)):
                forged = moved(pieces[index])
                self.check(hasher, pieces, index, forged, proof)
                self.check(hasher, list(pieces), index, forged, proof)
                found = parted(hasher, pieces, index, forged, proof)
                self.assertEqual(found, ((0,) + pieces[index], (0,) + forged))

    def test_211_a_piece_of_another_length(self):
        hasher = Hasher(("sum", 1))
        pieces = ((5, 6), (7,), (8, 9))
        found = proofs(hasher, pieces)
        longer = next((5, 6, one) for one in range(256) if hasher.digest((0, 5, 6, one)) == hasher.digest((0, 5, 6)))
        self.check(hasher, pieces, 0, longer, found[0])

    def test_211_the_true_piece_with_a_forged_proof(self):
        hasher = Hasher(("sum", 2))
        pieces = tuple(filling(5, place + 2) for place in range(9))
        heights = set()
        for index, proof in enumerate(proofs(hasher, pieces)):
            for height, digest in enumerate(proof):
                forged = proof[:height] + (moved(digest),) + proof[height + 1:]
                if moved(digest) != digest:
                    heights.add(height)
                    self.check(hasher, pieces, index, pieces[index], forged)
        self.assertEqual(heights, {0, 1, 2, 3})

    def test_211_the_first_of_several_pairs(self):
        hasher = Hasher(("sum", 2))
        pieces = tuple(filling(5, place + 2) for place in range(9))
        several = 0
        for index, proof in enumerate(proofs(hasher, pieces)):
            for first in range(4):
                forged = proof[:first] + tuple(moved(digest) for digest in proof[first:])
                if first == 0:
                    several += self.check(hasher, pieces, index, moved(pieces[index]), forged) > 1
                elif forged != proof:
                    several += self.check(hasher, pieces, index, pieces[index], forged) > 1
        self.assertGreater(several, 9)

    def test_211_another_piece_and_a_proof_that_brings_it_back(self):
        hasher = Hasher(("sum", 1))
        for count in (2, 3, 5, 9):
            pieces = tuple(filling(4, place + 1) for place in range(count))
            for index in range(count):
                for height in range(depth(count)):
                    with self.subTest(count=count, index=index, height=height):
                        self.check(hasher, pieces, index, *self.brought_back(hasher, pieces, index, height))

    @staticmethod
    def brought_back(hasher, pieces, index, height):
        """A piece with another leaf, and a proof with another digest at a height, that fold to the root."""
        proof = proofs(hasher, pieces)[index]
        top = root(hasher, pieces)
        piece = pieces[index][:-1] + ((pieces[index][-1] + 1) % 256,)
        for number in range(256):
            other = proof[:height] + ((number,),) + proof[height + 1:]
            if fold(hasher, index, piece, other) == top:
                return piece, other
        raise AssertionError("one of all digests of one octet must do")

    def test_211_whatever_comes_by_chance(self):
        hasher = Hasher(("sum", 1))
        chance = random.Random(211)
        pieces = tuple(filling(3, place) for place in range(7))
        top = root(hasher, pieces)
        forged = 0
        for _ in range(5000):
            index = chance.randrange(7)
            piece = tuple(chance.randrange(256) for _ in range(chance.randrange(5)))
            proof = tuple((chance.randrange(256),) for _ in range(3))
            if fold(hasher, index, piece, proof) == top:
                self.check(hasher, pieces, index, piece, proof)
                forged += 1
            else:
                self.assertRaises(BadProof, parted, hasher, pieces, index, piece, proof)
        self.assertGreater(forged, 5)


if __name__ == "__main__":
    unittest.main()

"""Point 1000, and the heading swarmwhole/leaves.py of the interface."""

import unittest

from swarmwhole.digests import Hasher
from swarmwhole.leaves import leaves_of, proofs_of, root_of
from swarmwhole.trees import fits, proofs, root
from tests.as_told import HASHERS, leaves_as_told, proof_as_told, rows_of, top_as_told
from tests.helpers import Unchanged
from tests.samples import SHA, SUMS, filling

COUNTS = (1, 2, 3, 4, 5, 7, 8, 9, 15, 16, 17)


class Leaves(unittest.TestCase):
    def test_1000_the_digests_of_the_pieces_without_what_fills_up_the_row(self):
        for hasher in HASHERS:
            for count in COUNTS:
                for pieces in rows_of(count):
                    due = tuple(hasher.digest((0,) + piece) for piece in pieces)
                    for given in (pieces, list(pieces)):
                        with Unchanged(self, given):
                            found = leaves_of(hasher, given)
                        self.assertEqual(found, due)
                        self.assertIsInstance(found, tuple)

    def test_1000_each_kind_of_digests(self):
        pieces = tuple(filling(4, place) for place in range(5))
        for kind in (SHA, *SUMS):
            hasher = Hasher(kind)
            leaves = leaves_of(hasher, pieces)
            self.assertEqual([len(leaf) for leaf in leaves], [kind[1]] * 5)
            self.assertEqual(leaves, tuple(hasher.digest((0,) + piece) for piece in pieces))
            self.assertEqual(root_of(hasher, leaves), root(hasher, pieces))
            self.assertEqual(proofs_of(hasher, leaves), proofs(hasher, pieces))

    def test_1000_the_root_and_the_proofs_follow(self):
        for hasher in HASHERS:
            for count in COUNTS:
                for pieces in rows_of(count):
                    whole = leaves_as_told(hasher, pieces)
                    top = top_as_told(hasher, whole)
                    due = tuple(proof_as_told(hasher, whole, index) for index in range(count))
                    for leaves in (leaves_of(hasher, pieces), list(leaves_of(hasher, pieces))):
                        with Unchanged(self, leaves):
                            self.assertEqual(root_of(hasher, leaves), top)
                            self.assertEqual(proofs_of(hasher, leaves), due)
                    self.assertIsInstance(proofs_of(hasher, leaves), tuple)
                    self.assertEqual((top, due), (root(hasher, pieces), proofs(hasher, pieces)))

    def test_1000_one_piece(self):
        for hasher in HASHERS:
            leaves = leaves_of(hasher, ((1, 2, 3),))
            self.assertEqual(leaves, (hasher.digest((0, 1, 2, 3)),))
            self.assertEqual(root_of(hasher, leaves), leaves[0])
            self.assertEqual(proofs_of(hasher, leaves), ((),))

    def test_1000_without_a_piece(self):
        for hasher in HASHERS:
            self.assertEqual(leaves_of(hasher, ()), ())
            self.assertEqual(root_of(hasher, ()), root(hasher, ()))
            self.assertEqual(proofs_of(hasher, ()), ())

    def test_1000_the_pieces_fit_with_the_proofs_of_the_leaves(self):
        for hasher in HASHERS:
            for count in COUNTS:
                pieces = rows_of(count)[0]
                leaves = leaves_of(hasher, pieces)
                top = root_of(hasher, leaves)
                for index, proof in enumerate(proofs_of(hasher, leaves)):
                    self.assertIs(fits(hasher, top, count, index, pieces[index], proof), True)

    def test_1000_leaves_of_no_pieces_at_all(self):
        """What a leaf is made of is not asked: any digests have a root and proofs."""
        hasher = Hasher(("sum", 3))
        leaves = ((1, 2, 3), (4, 5, 6), (7, 8, 9))
        low, high = hasher.digest((1, 1, 2, 3, 4, 5, 6)), hasher.digest((1, 7, 8, 9) + hasher.digest((2,)))
        self.assertEqual(root_of(hasher, leaves), hasher.digest((1,) + low + high))
        self.assertEqual(proofs_of(hasher, leaves),
                         (((4, 5, 6), high), ((1, 2, 3), high), (hasher.digest((2,)), low)))


if __name__ == "__main__":
    unittest.main()

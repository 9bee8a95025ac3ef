"""Trees of digests over pieces, and the proofs that they give (points 208 to 211)."""

from swarmwhole.errors import BadProof
from swarmwhole.leaves import LEAF, NODE, leaves_of, proof_in, proofs_of, root_of, rows_over
from swarmwhole.octets import is_integer, is_octets


def depth(count):
    """The depth of a tree over so many pieces."""
    return max(0, count - 1).bit_length()


def root(hasher, pieces):
    """The root of the tree over pieces."""
    return root_of(hasher, leaves_of(hasher, pieces))


def proofs(hasher, pieces):
    """The tuple of the proofs of all pieces in order."""
    return proofs_of(hasher, leaves_of(hasher, pieces))


def fold(hasher, index, piece, proof):
    """The digest to which a piece and a proof fold."""
    return hasher.digest(_texts(hasher, index, piece, proof)[-1])


def _texts(hasher, index, piece, proof):
    """What the digests along the way of a piece and a proof are made of, from the piece on."""
    texts = [LEAF + piece]
    for height, other in enumerate(proof):
        below = hasher.digest(texts[-1])
        if (index >> height) & 1 == 1:
            texts.append(NODE + other + below)
        else:
            texts.append(NODE + below + other)
    return texts


def is_proof(hasher, count, value):
    """True for a tuple of as many digests as a tree over so many pieces has depth, for any value."""
    if not isinstance(value, tuple) or len(value) != depth(count):
        return False
    return all(hasher.is_digest(item) for item in value)


def fits(hasher, top, count, index, piece, proof):
    """True if an index, a piece and a proof are of the right form and fold to the top, for any of them."""
    if not is_integer(index) or not 0 <= index < count:
        return False
    if not is_octets(piece) or not is_proof(hasher, count, proof):
        return False
    return fold(hasher, index, piece, proof) == top


def parted(hasher, pieces, index, piece, proof):
    """The text of the true way and the other one with the same digest, or None if nothing is forged."""
    rows = rows_over(hasher, leaves_of(hasher, pieces))
    if not fits(hasher, rows[-1][0], len(pieces), index, piece, proof):
        raise BadProof()
    true_way = _texts(hasher, index, pieces[index], proof_in(rows, index))
    other_way = _texts(hasher, index, piece, proof)
    for true_text, other_text in zip(true_way, other_way):
        if true_text != other_text and hasher.digest(true_text) == hasher.digest(other_text):
            return true_text, other_text
    return None

"""Trees as points 208 and 209 tell of them, from the top down."""

from swarmwhole.digests import Hasher
from tests.samples import SHA, filling

HASHERS = (Hasher(("sum", 4)), Hasher(("sum", 8)), Hasher(SHA))


def rows_of(count):
    """Rows of so many pieces: different ones, and equal ones among them."""
    different = tuple(filling(1 + place, place) for place in range(count))
    return (different, (filling(4),) * count, tuple(different[place // 2] for place in range(count)))


def top_as_told(hasher, leaves):
    """The node over a row of leaves whose number is a power of two."""
    if len(leaves) == 1:
        return leaves[0]
    half = len(leaves) // 2
    low, high = top_as_told(hasher, leaves[:half]), top_as_told(hasher, leaves[half:])
    return hasher.digest((1,) + low + high)


def leaves_as_told(hasher, pieces):
    leaves = [hasher.digest((0,) + piece) for piece in pieces]
    length = 1
    while length < len(leaves):
        length *= 2
    return leaves + [hasher.digest((2,))] * (length - len(leaves))


def proof_as_told(hasher, leaves, index):
    """From the leaves on: the nodes over the other halves."""
    if len(leaves) == 1:
        return ()
    half = len(leaves) // 2
    if index < half:
        return proof_as_told(hasher, leaves[:half], index) + (top_as_told(hasher, leaves[half:]),)
    return proof_as_told(hasher, leaves[half:], index - half) + (top_as_told(hasher, leaves[:half]),)

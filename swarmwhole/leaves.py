"""Leaves of trees, and what follows from them alone (points 208, 209 and 1000)."""

# What stands ahead in the texts of leaves and of nodes, and the text of what fills up the row of leaves.
LEAF = (0,)
NODE = (1,)
FILL = (2,)


def leaves_of(hasher, pieces):
    """The tuple of the leaves of pieces."""
    return tuple([leaf_of(hasher, piece) for piece in pieces])


def leaf_of(hasher, piece):
    """The leaf of a piece."""
    return hasher.digest(LEAF + piece)


def root_of(hasher, leaves):
    """The root of the tree over leaves."""
    return rows_over(hasher, leaves)[-1][0]


def proofs_of(hasher, leaves):
    """The tuple of the proofs of all pieces, from their leaves."""
    rows = rows_over(hasher, leaves)
    return tuple([proof_in(rows, index) for index in range(len(leaves))])


def rows_over(hasher, leaves):
    """The rows of the tree over leaves, from the leaves to the root."""
    row = list(leaves)
    fill = hasher.digest(FILL)
    # Only a power of two has no bit in common with the number below it.
    while len(row) == 0 or len(row) & (len(row) - 1) != 0:
        row.append(fill)
    rows = [row]
    while len(row) > 1:
        row = [hasher.digest(NODE + row[place] + row[place + 1]) for place in range(0, len(row), 2)]
        rows.append(row)
    return rows


def proof_in(rows, index):
    """The proof of the piece with an index, from the rows of its tree."""
    # The two of a pair differ in the lowest bit of their places.
    return tuple([row[(index >> height) ^ 1] for height, row in enumerate(rows[:-1])])

"""What is wished of a neighbour, and which piece it is asked for (points 606 and 607)."""


def wanted(claims, held):
    """The list of the pieces that are claimed and not held, ascending."""
    there = set(held)
    return [index for index, claimed in enumerate(claims) if claimed and index not in there]


def choice(claims, held, fields, asked):
    """The piece that a neighbour is asked for, or None."""
    pieces = wanted(claims, held)
    if len(pieces) == 0:
        return None
    free = [index for index in pieces if index not in asked]
    return rarest(free, fields) if len(free) > 0 else pieces[0]


def rarest(pieces, fields):
    """The one of the pieces that the fewest neighbours claim, of equals the least one."""
    return min([(_claimed(fields, index), index) for index in pieces])[1]


def _claimed(fields, index):
    """How many neighbours claim a piece."""
    return len([field for field in fields if field[index]])


class Rarest:
    """The policy of a peer that has no other one (point 610)."""

    def wants(self, claims, held):
        """The list of the pieces that the neighbour may be asked for."""
        return wanted(claims, held)

    def choose(self, claims, held, fields, asked):
        """The piece that the neighbour is asked for, or None."""
        return choice(claims, held, fields, asked)

"""Plans of players: which files are wanted, and in which order their octets are played (points 1100 to 1102)."""

from swarmwhole.descriptions import check_description
from swarmwhole.errors import BadPlan
from swarmwhole.layout import lengths_of, span_of, starts_of
from swarmwhole.octets import is_integer
from swarmwhole.wishes import rarest, wanted

MOST_WINDOW = 1000


def _are_files(value, count):
    """True for a tuple of one or more indexes of so many files, none of them twice."""
    if not isinstance(value, tuple) or len(value) == 0:
        return False
    return all([is_integer(file) and 0 <= file < count for file in value]) and len(set(value)) == len(value)


def _is_window(value):
    return is_integer(value) and 1 <= value <= MOST_WINDOW


class Plan:
    """The stream of the wanted files, and the place where the next octet of it is played; a policy for a peer."""

    def __init__(self, description, files, window):
        check_description(description)
        if not _are_files(files, len(description[3])) or not _is_window(window):
            raise BadPlan()
        starts, lengths = starts_of(description), lengths_of(description)
        self._size = description[2]
        self._window = window
        # Where the files of the stream begin in the content, and their lengths.
        self._files = [(starts[file], lengths[file]) for file in files]
        self._total = sum([lengths[file] for file in files])
        spans = [span_of(description, file) for file in files]
        self._wanted = {index: True for first, behind in spans for index in range(first, behind)}
        self._place = 0

    def total(self):
        """The length of the stream."""
        return self._total

    def place(self):
        """The place where the next octet is played."""
        return self._place

    def move(self, place):
        """Sets the place."""
        self._place = place

    def wanted(self):
        """The tuple of the wanted pieces."""
        return tuple(sorted(self._wanted))

    def ahead(self):
        """The tuple of the pieces of the window, in the order in which the stream comes to them."""
        taken = {}
        place = self._place
        while place < self._total and len(taken) < self._window:
            index, _, count = self.run(place)
            taken[index] = True
            place += count
        return tuple(taken)

    def at(self, place):
        """The index of the piece that has the octet at a place, and the place of the octet in the piece."""
        index, start, _ = self.run(place)
        return (index, start)

    def run(self, place):
        """What `at` tells, and how many octets of the stream stand in this piece from the place on without a gap."""
        for start, length in self._files:
            if place < length:
                break
            place -= length
        index, offset = divmod(start + place, self._size)
        return (index, offset, min(length - place, self._size - offset))

    def wants(self, claims, held):
        """The list of the pieces that a neighbour may be asked for."""
        pieces = wanted(claims, held)
        there = set(held)
        if all([index in there for index in self._wanted]):
            return pieces
        return [index for index in pieces if index in self._wanted]

    def choose(self, claims, held, fields, asked):
        """The piece that a neighbour is asked for, or None."""
        pieces = self.wants(claims, held)
        there = set(pieces)
        near = [index for index in self.ahead() if index in there]
        for index in near:
            if index not in asked:
                return index
        free = [index for index in pieces if index not in asked]
        if len(free) > 0:
            return rarest(free, fields)
        due = near + pieces
        return due[0] if len(due) > 0 else None

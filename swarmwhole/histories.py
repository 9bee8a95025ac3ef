"""Histories of versions: their check, how they stand to each other, and what follows one (points 1004 to 1007)."""

from swarmwhole.content import cut, describe
from swarmwhole.digests import Hasher, digest
from swarmwhole.entries import check_entry, written_entry
from swarmwhole.errors import BadEntry, BadHistory
from swarmwhole.leaves import leaves_of


def check_history(history):
    """Raises BadHistory if the value is not a history, for any value."""
    if not isinstance(history, tuple) or len(history) == 0:
        raise BadHistory(-1, "form")
    before = ()
    for number, entry in enumerate(history):
        _check_entry(number, entry)
        if _kind_of(entry) != _kind_of(history[0]):
            raise BadHistory(number, "kind")
        if entry[0] != number:
            raise BadHistory(number, "number")
        if entry[1] != before:
            raise BadHistory(number, "before")
        before = _identity_of(entry)


def _check_entry(number, entry):
    try:
        check_entry(entry)
    except BadEntry as error:
        raise BadHistory(number, error.reason) from None


def _kind_of(entry):
    return entry[2][1]


def _identity_of(entry):
    return digest(_kind_of(entry), written_entry(entry))


def head(history):
    """The identity of the last entry, which names the whole history."""
    check_history(history)
    return _identity_of(history[-1])


def published(history, name, kind, size, files):
    """A history with one entry more, for the content of these files; the history may be empty."""
    before = ()
    if history != ():
        before = head(history)
        if kind != _kind_of(history[0]):
            raise BadHistory(len(history), "kind")
    description = describe(name, kind, size, files)
    contents = tuple([octets for _, octets in files])
    hasher = Hasher(kind)
    digests = tuple([hasher.digest(octets) for octets in contents])
    leaves = leaves_of(hasher, cut(description, contents))
    return history + ((len(history), before, description, digests, leaves),)


def relation(one, other):
    """How the first history stands to the second one."""
    check_history(one)
    check_history(other)
    return _standing(one, other)


def _standing(one, other):
    for number, (first, second) in enumerate(zip(one, other)):
        if first != second:
            return ("fork", number)
    if len(one) == len(other):
        return ("same",)
    return ("longer",) if len(one) > len(other) else ("shorter",)


def collided(one, other):
    """The two different texts with one identity behind which the histories are equal up to one head, or None."""
    check_history(one)
    check_history(other)
    # Heads of two kinds are never equal: they have other lengths.
    if _identity_of(one[-1]) != _identity_of(other[-1]):
        return None
    # The first entry of the shorter one has another number than the one beside it, so a pair is found at the latest
    # there, unless both are equal.
    for first, second in zip(one[::-1], other[::-1]):
        if first != second:
            return (written_entry(first), written_entry(second))
    return None


class Follower:
    """Follows a history to those that go on from it, and keeps the forks that it has seen."""

    def __init__(self, history):
        check_history(history)
        self._history = history
        self._forks = []

    def history(self):
        """The history that it follows."""
        return self._history

    def forks(self):
        """A new list of the forks: the number, the entry that it followed then, and the other one."""
        return list(self._forks)

    def take(self, other):
        """Looks at a history; how it stands to the one that was followed until then."""
        check_history(other)
        standing = _standing(other, self._history)
        if standing[0] == "fork":
            number = standing[1]
            self._forks.append((number, self._history[number], other[number]))
        elif standing[0] == "longer":
            self._history = other
        return standing

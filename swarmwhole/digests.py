"""Kinds of digests, and what makes digests of them (points 200, 201 and 207)."""

from swarmwhole.errors import BadKind
from swarmwhole.octets import as_octets, is_integer, is_octets
from swarmwhole.sha import round_words, sha, start_words

SHA = "sha"
SUM = "sum"
SHA_SIZE = 24
MOST_SUM_SIZE = 8


def is_kind(value):
    """True for a kind of digests, for any value."""
    if not isinstance(value, tuple) or len(value) != 2 or not is_integer(value[1]):
        return False
    word, size = value
    return (word == SHA and size == SHA_SIZE) or (word == SUM and 1 <= size <= MOST_SUM_SIZE)


class Hasher:
    """Makes digests of a kind."""

    def __init__(self, kind):
        if not is_kind(kind):
            raise BadKind()
        self.kind = kind
        self.size = kind[1]
        self._start = ()
        self._rounds = ()
        # The words take far longer than the digest of a few octets, so they are computed once.
        if kind[0] == SHA:
            self._start = start_words()
            self._rounds = round_words()

    def digest(self, octets):
        """The digest of octets."""
        if self.kind[0] == SHA:
            return sha(octets, self._start, self._rounds)[:self.size]
        return _sum_digest(octets, self.size)

    def is_digest(self, value):
        """True for octets of the size of a digest, for any value."""
        return is_octets(value, size=self.size)


def _sum_digest(octets, size):
    mask = (1 << (8 * size)) - 1
    number = 1
    for octet in octets:
        number = (31 * number + octet + 1) & mask
    return as_octets(number, size=size)


def digest(kind, octets):
    """The digest of octets, of a kind."""
    return Hasher(kind).digest(octets)

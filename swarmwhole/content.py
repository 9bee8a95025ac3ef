"""Content: files of octets, and the pieces that they are cut into (points 308 and 309)."""

from swarmwhole.descriptions import check_description, check_shape
from swarmwhole.digests import Hasher
from swarmwhole.errors import BadContent
from swarmwhole.layout import count_of, length_of, lengths_of, span_of, stream_pieces, starts_of
from swarmwhole.octets import is_octets, joined
from swarmwhole.trees import root


def describe(name, kind, size, files):
    """The description of content; the files are a tuple of pairs of a path and octets."""
    rows = described_files(name, kind, size, files)
    pieces = stream_pieces([octets for _, octets in files], size)
    return (name, kind, size, rows, root(Hasher(kind), pieces))


def described_files(name, kind, size, files):
    """The files as a description has them; raises for any value what `describe` raises."""
    if not isinstance(files, tuple) or not all(_is_file(item) for item in files):
        raise BadContent()
    rows = tuple([(path, len(octets)) for path, octets in files])
    check_shape(name, kind, size, rows)
    return rows


def _is_file(value):
    return isinstance(value, tuple) and len(value) == 2 and is_octets(value[1])


def cut(description, contents):
    """The tuple of the pieces of content, which has octets for each file."""
    check_description(description)
    if not _are_octets(contents, lengths_of(description)):
        raise BadContent()
    return stream_pieces(contents, description[2])


def _are_octets(value, lengths):
    """True for a tuple of octets of these lengths, for any value."""
    if not isinstance(value, tuple) or len(value) != len(lengths):
        return False
    return all([is_octets(item, size=length) for item, length in zip(value, lengths)])


def join(description, pieces):
    """The tuple of the octets of the files, from all pieces."""
    check_description(description)
    if not _are_octets(pieces, [length_of(description, index) for index in range(count_of(description))]):
        raise BadContent()
    stream = joined(pieces)
    starts = starts_of(description)
    return tuple([stream[start:start + length] for start, length in zip(starts, lengths_of(description))])


def fits(description, contents):
    """True if content fits a description, for any value of the content."""
    check_description(description)
    if not _are_octets(contents, lengths_of(description)):
        return False
    pieces = stream_pieces(contents, description[2])
    return root(Hasher(description[1]), pieces) == description[4]


def whole_files(description, had):
    """A tuple with the octets of each file whose pieces are all in the dictionary, and None for the others."""
    check_description(description)
    return tuple([_whole_file(description, had, file) for file in range(len(description[3]))])


def _whole_file(description, had, file):
    first, behind = span_of(description, file)
    if not all(index in had for index in range(first, behind)):
        return None
    octets = joined([had[index] for index in range(first, behind)])
    start = starts_of(description)[file] - first * description[2]
    return octets[start:start + lengths_of(description)[file]]

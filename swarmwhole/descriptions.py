"""Descriptions of content: their form, their texts and their places (points 300 to 307)."""

from swarmwhole.digests import digest, is_kind
from swarmwhole.errors import BadContent, BadDescription, BadValue
from swarmwhole.forms import (
    int_in, kind_in, kind_value, list_in, list_value, octets_in, octets_list, octets_rows_in, pair_in, table_in,
    table_value, value_in,
)
from swarmwhole.layout import count_of, length_of, runs_of, span_of, total_of
from swarmwhole.octets import is_integer, is_octets
from swarmwhole.values import encode

MOST_NAME = 40
MOST_PARTS = 8
MOST_FILES = 64
MOST_LENGTH = 2 ** 32
LEAST_SIZE = 4
MOST_SIZE = 65536
MOST_PIECES = 4096
DOT = 46
# The octets of - . and _
NAME_SIGNS = (45, 46, 95)
KEYS = ("files", "kind", "name", "root", "size")


def is_name(value):
    """True for a name, for any value."""
    if not is_octets(value) or not 1 <= len(value) <= MOST_NAME:
        return False
    return all(_is_name_octet(octet) for octet in value) and any(octet != DOT for octet in value)


def _is_name_octet(octet):
    return 97 <= octet <= 122 or 48 <= octet <= 57 or octet in NAME_SIGNS


def is_path(value):
    """True for a path, for any value."""
    if not isinstance(value, tuple) or not 1 <= len(value) <= MOST_PARTS:
        return False
    return all(is_name(part) for part in value)


def check_description(description):
    """Raises BadDescription if the value is not a description, for any value."""
    if not isinstance(description, tuple) or len(description) != 5:
        raise BadDescription("form")
    name, kind, size, files, top = description
    check_shape(name, kind, size, files)
    if not is_octets(top, size=kind[1]):
        raise BadDescription("root")


def check_shape(name, kind, size, files):
    """Raises BadDescription for the first of these items that no description has, for any of them."""
    if not is_name(name):
        raise BadDescription("name")
    if not is_kind(kind):
        raise BadDescription("kind")
    if not _is_size(size):
        raise BadDescription("size")
    if not _are_files(files):
        raise BadDescription("files")
    if not 1 <= sum([length for _, length in files]) <= MOST_PIECES * size:
        raise BadDescription("total")


def _is_size(value):
    # Only a power of two has no bit in common with the number below it.
    return is_integer(value) and LEAST_SIZE <= value <= MOST_SIZE and value & (value - 1) == 0


def _are_files(files):
    if not isinstance(files, tuple) or not 1 <= len(files) <= MOST_FILES:
        return False
    if not all(_is_file(item) for item in files):
        return False
    # In ascending order, whatever stands between a path and a longer one of its beginning begins so, too.
    paths = sorted([path for path, _ in files])
    return not any(_begins(paths[place + 1], paths[place]) for place in range(len(paths) - 1))


def _is_file(value):
    if not isinstance(value, tuple) or len(value) != 2:
        return False
    path, length = value
    return is_path(path) and is_integer(length) and 0 <= length <= MOST_LENGTH


def _begins(path, beginning):
    return path[:len(beginning)] == beginning


def text_of(description):
    """The octets of the text of a description."""
    check_description(description)
    name, kind, size, files, top = description
    return encode(table_value({
        "files": list_value([list_value([octets_list(path), ("int", length)]) for path, length in files]),
        "kind": kind_value(kind),
        "name": ("octets", name),
        "root": ("octets", top),
        "size": ("int", size),
    }))


def parse(octets):
    """The description whose text the octets are, for any value."""
    try:
        description = _description_in(value_in(octets))
    except BadValue:
        raise BadDescription("text") from None
    check_description(description)
    return description


def _description_in(value):
    """What stands in a value of the form of a description; its items may still be wrong."""
    files, kind, name, top, size = table_in(value, KEYS)
    rows = tuple([_file_in(item) for item in list_in(files)])
    return (octets_in(name), kind_in(kind), int_in(size), rows, octets_in(top))


def _file_in(value):
    path, length = pair_in(value)
    return (octets_rows_in(path), int_in(length))


def identity(description):
    """The digest of the text of a description, of its own kind."""
    text = text_of(description)
    return digest(description[1], text)


def total_length(description):
    """The length of the stream."""
    check_description(description)
    return total_of(description)


def piece_count(description):
    """The number of the pieces."""
    check_description(description)
    return count_of(description)


def piece_length(description, index):
    """The number of octets of a piece."""
    _check_piece(description, index)
    return length_of(description, index)


def places(description, index):
    """The tuple of the places of a piece: runs of octets of files."""
    _check_piece(description, index)
    return runs_of(description, index)


def pieces_of(description, file):
    """The pieces of a file: the index of the first one, and the index behind the last one."""
    check_description(description)
    _check_index(file, len(description[3]))
    return span_of(description, file)


def _check_piece(description, index):
    check_description(description)
    _check_index(index, count_of(description))


def _check_index(index, count):
    if not is_integer(index) or not 0 <= index < count:
        raise BadContent()

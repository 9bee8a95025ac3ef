"""Entries: each tells of one version of a content (points 1001 to 1003)."""

from swarmwhole.descriptions import check_description, parse, text_of
from swarmwhole.digests import Hasher, digest
from swarmwhole.errors import BadDescription, BadEntry, BadValue
from swarmwhole.forms import int_in, octets_in, octets_list, octets_rows_in, table_in, table_value, value_in
from swarmwhole.layout import count_of
from swarmwhole.leaves import root_of
from swarmwhole.octets import is_integer, is_octets
from swarmwhole.values import encode

KEYS = ("before", "description", "files", "leaves", "number")


def check_entry(entry):
    """Raises BadEntry if the value is not an entry, for any value."""
    if not isinstance(entry, tuple) or len(entry) != 5:
        raise BadEntry("form")
    number, before, description, files, leaves = entry
    if not is_integer(number) or number < 0 or not is_octets(before):
        raise BadEntry("form")
    if not isinstance(files, tuple) or not isinstance(leaves, tuple):
        raise BadEntry("form")
    _check_description(description)
    hasher = Hasher(description[1])
    if not _are_digests(hasher, files, len(description[3])):
        raise BadEntry("files")
    if not _are_digests(hasher, leaves, count_of(description)) or root_of(hasher, leaves) != description[4]:
        raise BadEntry("leaves")


def _check_description(description):
    try:
        check_description(description)
    except BadDescription:
        raise BadEntry("description") from None


def _are_digests(hasher, items, count):
    return len(items) == count and all([hasher.is_digest(item) for item in items])


def entry_text(entry):
    """The octets of the text of an entry."""
    check_entry(entry)
    return written_entry(entry)


def written_entry(entry):
    """The octets of the text of what is known to be an entry."""
    number, before, description, files, leaves = entry
    return encode(table_value({
        "before": ("octets", before),
        "description": ("octets", text_of(description)),
        "files": octets_list(files),
        "leaves": octets_list(leaves),
        "number": ("int", number),
    }))


def entry_identity(entry):
    """The digest of the text of an entry, of the kind of its description."""
    text = entry_text(entry)
    return digest(entry[2][1], text)


def entry_of(octets):
    """The entry whose text the octets are, for any value."""
    try:
        entry = _entry_in(value_in(octets))
    except BadValue:
        raise BadEntry("text") from None
    except BadDescription:
        raise BadEntry("description") from None
    check_entry(entry)
    return entry


def _entry_in(value):
    """What stands in a value of the form of an entry; only the description is checked."""
    before, text, files, leaves, number = table_in(value, KEYS)
    number, before, text = int_in(number), octets_in(before), octets_in(text)
    files, leaves = octets_rows_in(files), octets_rows_in(leaves)
    # Whatever the form of the value lacks is told ahead of what is wrong with the description.
    return (number, before, parse(text), files, leaves)

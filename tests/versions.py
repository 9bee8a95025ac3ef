"""Versions of content and their histories, which several tests use."""

from swarmwhole.histories import published
from tests.samples import NAME, filling, path


def files(**held):
    """Files in the order in which they are told: octets by their names, or so many different octets."""
    return tuple((path(name), octets if isinstance(octets, tuple) else filling(octets, 7 + len(name)))
                 for name, octets in held.items())


def history(*versions, kind=("sum", 2), size=4, name=NAME):
    """The history of these versions, each a tuple of files."""
    found = ()
    for version in versions:
        found = published(found, name, kind, size, version)
    return found


def changed(entry, **items):
    """An entry with other items."""
    names = "number", "before", "description", "files", "leaves"
    return tuple(items.get(name, held) for name, held in zip(names, entry))

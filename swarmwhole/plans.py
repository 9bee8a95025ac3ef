"""Plans: how the pieces of a new version come from what there is of an old one (points 1008 and 1009)."""

from swarmwhole.content import whole_files
from swarmwhole.digests import Hasher
from swarmwhole.layout import length_of, runs_of
from swarmwhole.leaves import leaf_of

FETCH = ("fetch",)


def plan(old, had, new):
    """The tuple of the rows, one for each new piece."""
    return tuple([row for row, _ in _steps(old, had, new)])


def made(old, had, new):
    """The dictionary of the octets of the new pieces that are made of old ones, by their index."""
    steps = _steps(old, had, new)
    return {index: octets for index, (_, octets) in enumerate(steps) if octets is not None}


def fetched(rows):
    """The tuple of the indexes of the pieces that must be fetched."""
    return tuple([index for index, row in enumerate(rows) if row == FETCH])


def _steps(old, had, new):
    """The list of the rows, each with the octets that it makes of old ones, or None."""
    description = new[2]
    hasher = Hasher(description[1])
    pieces = _piece_steps(hasher, had)
    kept = _kept_files(hasher, old, had, new)
    # The least piece that is fetched, by its length and leaf.
    firsts = {}
    steps = []
    for index, leaf in enumerate(new[4]):
        mark = (length_of(description, index), leaf)
        step = pieces.get(mark)
        if step is None:
            step = _files_step(hasher, kept, runs_of(description, index), leaf)
        if step is None and mark in firsts:
            step = (("twin", firsts[mark]), None)
        if step is None:
            firsts[mark] = index
            step = (FETCH, None)
        steps.append(step)
    return steps


def _piece_steps(hasher, had):
    """The step of the least old piece of each length and leaf, by these."""
    steps = {}
    for index in sorted(had):
        octets = had[index]
        steps.setdefault((len(octets), leaf_of(hasher, octets)), (("piece", index), octets))
    return steps


def _kept_files(hasher, old, had, new):
    """The least old file that is kept as a new one, and its octets, by the index of the new one."""
    there = {}
    for file, octets in enumerate(whole_files(old[2], had)):
        if octets is not None:
            there.setdefault((len(octets), hasher.digest(octets)), (file, octets))
    marks = [(length, due) for (_, length), due in zip(new[2][3], new[3])]
    return {file: there[mark] for file, mark in enumerate(marks) if mark in there}


def _files_step(hasher, kept, runs, leaf):
    """The step that makes a piece of kept files, or None."""
    if not all([file in kept for file, _, _ in runs]):
        return None
    octets = ()
    for file, start, count in runs:
        octets = octets + kept[file][1][start:start + count]
    if leaf_of(hasher, octets) != leaf:
        return None
    return (("files", tuple([(kept[file][0], start, count) for file, start, count in runs])), octets)

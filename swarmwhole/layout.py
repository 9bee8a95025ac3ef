"""Where the files and pieces of a description lie in the stream (points 301, 306 and 307).

The functions here are handed what is known to be a description, and the index of a piece or a file of it, so that
those who have asked that once need not ask it again at each step.
"""

from swarmwhole.octets import cut, joined


def stream_pieces(contents, size):
    """The tuple of the pieces of so many octets of the stream of files."""
    return tuple(cut(joined(contents), size))


def lengths_of(description):
    """The list of the lengths of the files."""
    return [length for _, length in description[3]]


def total_of(description):
    """The length of the stream."""
    return sum(lengths_of(description))


def count_of(description):
    """The number of the pieces."""
    return pieces_behind(total_of(description), description[2])


def pieces_behind(place, size):
    """The number of the pieces that begin ahead of a place of the stream."""
    return (place + size - 1) // size


def length_of(description, index):
    """The number of octets of a piece."""
    size = description[2]
    return min(size, total_of(description) - index * size)


def starts_of(description):
    """The list of the places of the stream at which the files begin."""
    starts = []
    place = 0
    for length in lengths_of(description):
        starts.append(place)
        place += length
    return starts


def runs_of(description, index):
    """The tuple of the places of a piece."""
    first = index * description[2]
    behind = first + length_of(description, index)
    runs = []
    for file, (start, length) in enumerate(zip(starts_of(description), lengths_of(description))):
        low = max(first, start)
        high = min(behind, start + length)
        if low < high:
            runs.append((file, low - start, high - low))
    return tuple(runs)


def span_of(description, file):
    """The index of the first piece of a file, and the index behind its last one."""
    size = description[2]
    length = lengths_of(description)[file]
    if length == 0:
        return (0, 0)
    start = starts_of(description)[file]
    return (start // size, pieces_behind(start + length, size))

"""What is written twice on a disk, so that a torn write is told from a whole one (points 503, 1010 and 1103)."""

from swarmwhole.octets import as_octets, cut, number_of

NUMBER_SIZE = 8
# The places of numbers, each of which holds one twice, begin at offset 0, one behind the other.
PLACES = 2
PLACE_SIZE = 2 * NUMBER_SIZE
PLACES_SIZE = PLACES * PLACE_SIZE


def read_twice(disk, offset, size):
    """The octets, so many, that stand twice from the offset on; None if the two differ."""
    first, second = cut(disk.read(offset, 2 * size), size)
    return first if first == second else None


def write_twice(disk, offset, octets):
    """Writes octets twice from the offset on, in one write, and syncs."""
    disk.write(offset, octets + octets)
    disk.sync()


def number_at(disk, place):
    """The number that can be read in a place, otherwise 0."""
    octets = read_twice(disk, place * PLACE_SIZE, NUMBER_SIZE)
    return 0 if octets is None else number_of(octets)


def write_number(disk, place, number):
    """Writes a number into a place, in one write, and syncs."""
    write_twice(disk, place * PLACE_SIZE, as_octets(number, size=NUMBER_SIZE))

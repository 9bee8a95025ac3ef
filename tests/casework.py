"""Cases that several tests use."""

from tests.samples import NAME, files_of

# Two whole files around an empty one: five pieces, the last one of 3 octets.
FILES = files_of(9, 0, 10)
ALL = (0, 1, 2, 3, 4)
# 1 has all pieces, 2 has two, 4 has none; 3 and 7 are forgers.
WORLD = (((1, ALL), (2, (0, 3)), (4, ())), (3, 7), ((1, 2), (1, 4), (2, 3), (2, 4), (3, 4), (3, 7)))
# One of each kind of event, and an empty tick.
EVENTS = (
    (("join", 1, 2), ("rise", 4), ("flow", 1, 2, None), ("flow", 2, 1, 0)), (),
    (("forge", 3, 2, (0, 37, 255)), ("forge", 3, 7, ()), ("arm", 2, 4, (1, 0, 30)), ("arm", 1, 0, ())),
    (("fall", 4, (2, 5)), ("fall", 2, ()), ("cut", 1, 2)),
)


def case(name=NAME, kind=("sum", 2), size=4, files=FILES, world=WORLD, schedule=EVENTS, quiet=3):
    """A case, right by default."""
    return (name, kind, size, files, world, schedule, quiet)

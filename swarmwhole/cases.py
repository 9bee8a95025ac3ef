"""Cases: content, a world and a schedule for it, and quiet ticks; their check and their texts (points 900 to 903)."""

from swarmwhole.content import described_files
from swarmwhole.errors import BadCase, BadContent, BadDescription, BadSchedule, BadSwarm, BadValue
from swarmwhole.forms import (
    NOTHING, int_in, int_list, ints_in, kind_in, kind_value, list_in, list_value, octets_in, octets_list,
    octets_rows_in, pair_in, table_in, table_value, value_in, word_in, word_value,
)
from swarmwhole.layout import pieces_behind
from swarmwhole.octets import is_integer
from swarmwhole.schedules import EVENTS, check_schedule, check_world
from swarmwhole.values import encode

MOST_QUIET = 1000
# The greatest integer of a world and a schedule.
MOST_NUMBER = 10 ** 9
KEYS = ("files", "kind", "name", "quiet", "schedule", "size", "world")
FORGE = "forge"


def check_case(case):
    """Raises BadCase if the value is not a case, for any value."""
    if not isinstance(case, tuple) or len(case) != 7:
        raise BadCase("form")
    name, kind, size, files, world, schedule, quiet = case
    _check_world(world, _count_of(name, kind, size, files))
    _check_schedule(schedule)
    if not is_integer(quiet) or not 0 <= quiet <= MOST_QUIET:
        raise BadCase("quiet")


def _count_of(name, kind, size, files):
    """The number of the pieces of the content."""
    try:
        rows = described_files(name, kind, size, files)
    except (BadContent, BadDescription):
        raise BadCase("content") from None
    return pieces_behind(sum([length for _, length in rows]), size)


def _check_world(world, count):
    try:
        check_world(world, count)
    except BadSwarm:
        raise BadCase("world") from None
    if not _is_small(world):
        raise BadCase("world")


def _check_schedule(schedule):
    try:
        check_schedule(schedule)
    except BadSchedule:
        raise BadCase("schedule") from None
    if not _is_small(schedule):
        raise BadCase("schedule")


def _is_small(value):
    """True if no integer is too great, the value itself or within tuples."""
    if isinstance(value, tuple):
        return all([_is_small(item) for item in value])
    return not is_integer(value) or value <= MOST_NUMBER


def case_text(case):
    """The octets of the text of a case."""
    check_case(case)
    name, kind, size, files, world, schedule, quiet = case
    return encode(table_value({
        "files": list_value([list_value([octets_list(path), ("octets", octets)]) for path, octets in files]),
        "kind": kind_value(kind),
        "name": ("octets", name),
        "quiet": ("int", quiet),
        "schedule": list_value([list_value([_event_value(event) for event in events]) for events in schedule]),
        "size": ("int", size),
        "world": _world_value(world),
    }))


def _world_value(world):
    honest, forgers, pairs = world
    return list_value([
        list_value([list_value([("int", number), int_list(pieces)]) for number, pieces in honest]),
        int_list(forgers),
        list_value([int_list(pair) for pair in pairs]),
    ])


def _event_value(event):
    word, *items = event
    return list_value([word_value(word), *[_item_value(word, item) for item in items]])


def _item_value(word, item):
    if item is None:
        return NOTHING
    if is_integer(item):
        return ("int", item)
    return ("octets", item) if word == FORGE else int_list(item)


def parse_case(octets):
    """The case whose text the octets are, for any value."""
    try:
        case = _case_in(value_in(octets))
    except BadValue:
        raise BadCase("text") from None
    check_case(case)
    return case


def _case_in(value):
    """What stands in a value of the form of a case; its items may still be wrong."""
    files, kind, name, quiet, schedule, size, world = table_in(value, KEYS)
    rows = tuple([_file_in(item) for item in list_in(files)])
    ticks = tuple([tuple([_event_in(event) for event in list_in(events)]) for events in list_in(schedule)])
    return (octets_in(name), kind_in(kind), int_in(size), rows, _world_in(world), ticks, int_in(quiet))


def _file_in(value):
    path, octets = pair_in(value)
    return (octets_rows_in(path), octets_in(octets))


def _world_in(value):
    parts = list_in(value)
    if len(parts) != 3:
        raise BadValue()
    honest, forgers, pairs = parts
    return (
        tuple([_honest_in(item) for item in list_in(honest)]),
        ints_in(forgers),
        tuple([ints_in(list_value(pair_in(item))) for item in list_in(pairs)]),
    )


def _honest_in(value):
    number, pieces = pair_in(value)
    return (int_in(number), ints_in(pieces))


def _event_in(value):
    """What stands in the list of an event; there may be no such event."""
    items = list_in(value)
    if len(items) == 0:
        raise BadValue()
    word = word_in(items[0], list(EVENTS))
    return (word, *[_item_in(word, item) for item in items[1:]])


def _item_in(word, value):
    if value == NOTHING:
        return None
    if value[0] == "int":
        return int_in(value)
    return octets_in(value) if word == FORGE else ints_in(value)

"""Worlds, events and schedules of swarms (points 700, 703 and 705)."""

from swarmwhole.errors import BadSchedule, BadSwarm
from swarmwhole.octets import is_integer, is_octets

# What stands behind the word of each event.
EVENTS = {
    "join": ("number", "number"),
    "cut": ("number", "number"),
    "flow": ("number", "number", "count"),
    "forge": ("number", "number", "octets"),
    "arm": ("number", "number", "kept"),
    "fall": ("number", "kept"),
    "rise": ("number",),
}
# The events of a connection as a whole, which name the lesser number first.
CONNECTION_WORDS = ("join", "cut")


def is_event(value):
    """True for an event, for any value."""
    if not isinstance(value, tuple) or len(value) == 0:
        return False
    word, *items = value
    if not isinstance(word, str) or word not in EVENTS:
        return False
    sorts = EVENTS[word]
    if len(items) != len(sorts) or not all([_is_item(sort, item) for sort, item in zip(sorts, items)]):
        return False
    return word not in CONNECTION_WORDS or items[0] < items[1]


def _is_item(sort, value):
    if sort == "octets":
        return is_octets(value)
    if sort == "kept":
        return isinstance(value, tuple) and all(_is_number(item) for item in value)
    return _is_number(value) or (sort == "count" and value is None)


def _is_number(value):
    return is_integer(value) and value >= 0


def check_schedule(schedule):
    """Raises BadSchedule if the value is not a schedule, for any value."""
    if not isinstance(schedule, tuple):
        raise BadSchedule(-1)
    for tick, events in enumerate(schedule):
        if not isinstance(events, tuple) or not all(is_event(event) for event in events):
            raise BadSchedule(tick)


def check_world(world, count):
    """Raises BadSwarm if the value is not a world for so many pieces, for any value."""
    if not isinstance(world, tuple) or len(world) != 3:
        raise BadSwarm()
    honest, forgers, pairs = world
    if not _are_honest(honest, count) or not _are_numbers(forgers):
        raise BadSwarm()
    numbers = [number for number, _ in honest] + list(forgers)
    if len(set(numbers)) < len(numbers) or not _are_pairs(pairs, numbers):
        raise BadSwarm()


def _are_numbers(value):
    """True for a tuple of numbers in ascending order, without doubles."""
    return isinstance(value, tuple) and all(_is_number(item) for item in value) and _is_ascending(value)


def _is_ascending(items):
    return all(items[place] < items[place + 1] for place in range(len(items) - 1))


def _are_honest(value, count):
    if not isinstance(value, tuple) or not all(_is_honest(item, count) for item in value):
        return False
    return _is_ascending([number for number, _ in value])


def _is_honest(value, count):
    if not isinstance(value, tuple) or len(value) != 2:
        return False
    number, pieces = value
    return _is_number(number) and _are_numbers(pieces) and all(index < count for index in pieces)


def _are_pairs(value, numbers):
    if not isinstance(value, tuple) or not all(_is_pair(item, numbers) for item in value):
        return False
    return _is_ascending(value)


def _is_pair(value, numbers):
    if not _are_numbers(value) or len(value) != 2:
        return False
    return value[0] in numbers and value[1] in numbers

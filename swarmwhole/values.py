"""Values, and the one text that each of them has (points 104 to 106)."""

from swarmwhole.errors import BadText, BadValue
from swarmwhole.octets import is_integer, is_octets, joined, octets_of, text_of

DEEPEST = 32
MOST_DIGITS = 600
MOST_COUNT_DIGITS = 9
MOST_OCTETS = 999999999
# The least integer with more digits than an integer may have.
TOO_GREAT = (10 ** 60) ** 10

# The octets of n, o, [, ], {, }, -, ;, : and the digits.
INT = (110,)
OCTETS = (111,)
LIST_OPEN = (91,)
LIST_CLOSE = (93,)
DICT_OPEN = (123,)
DICT_CLOSE = (125,)
MINUS = (45,)
SEMICOLON = (59,)
COLON = (58,)
ZERO = (48,)
FIRST_DIGIT = 48
LAST_DIGIT = 57


def is_value(value):
    """True for a value, for any value."""
    return _is_value(value, DEEPEST)


def _is_value(value, deep):
    """True for a value in which lists and dictionaries are nested at most so deep."""
    if not isinstance(value, tuple) or len(value) != 2:
        return False
    word, held = value
    if word == "int":
        return is_integer(held) and -TOO_GREAT < held < TOO_GREAT
    if word == "octets":
        return _is_writable(held)
    if deep == 0 or not isinstance(held, tuple):
        return False
    if word == "list":
        return all(_is_value(item, deep - 1) for item in held)
    return word == "dict" and _are_pairs(held, deep - 1)


def _is_writable(value):
    return is_octets(value) and len(value) <= MOST_OCTETS


def _are_pairs(pairs, deep):
    """True for pairs of keys in strictly ascending order and values that are nested at most so deep."""
    if not all(_is_keyed(pair) for pair in pairs):
        return False
    keys = [key for key, _ in pairs]
    if not all(keys[place] < keys[place + 1] for place in range(len(keys) - 1)):
        return False
    return all(_is_value(value, deep) for _, value in pairs)


def _is_keyed(pair):
    return isinstance(pair, tuple) and len(pair) == 2 and _is_writable(pair[0])


def encode(value):
    """The text of a value, as octets."""
    if not is_value(value):
        raise BadValue()
    return _text(value)


def _text(value):
    word, held = value
    if word == "int":
        return octets_of(f"n{held};")
    if word == "octets":
        return _octets_text(held)
    if word == "list":
        return joined([LIST_OPEN, *[_text(item) for item in held], LIST_CLOSE])
    pairs = [_octets_text(key) + _text(item) for key, item in held]
    return joined([DICT_OPEN, *pairs, DICT_CLOSE])


def _octets_text(octets):
    return octets_of(f"o{len(octets)}:") + octets


def decode(octets):
    """The value whose text the octets are."""
    value, behind = decode_at(octets, 0)
    if behind != len(octets):
        raise BadText(behind)
    return value


def decode_at(octets, place):
    """The value whose text begins at the place, and the place behind it."""
    return _read(octets, place, DEEPEST)


def _read(octets, place, deep):
    """The value at the place and the place behind it; it may nest lists and dictionaries so deep."""
    head = octets[place:place + 1]
    if head == INT:
        return _read_int(octets, place + 1)
    if head == OCTETS:
        held, behind = _read_octets(octets, place + 1)
        return ("octets", held), behind
    if head == LIST_OPEN and deep > 0:
        return _read_list(octets, place + 1, deep - 1)
    if head == DICT_OPEN and deep > 0:
        return _read_dict(octets, place + 1, deep - 1)
    raise BadText(place)


def _read_int(octets, place):
    first = place
    if octets[place:place + 1] == MINUS:
        first = place + 1
        if octets[first:first + 1] == ZERO:
            raise BadText(first)
    behind = _behind_digits(octets, first, MOST_DIGITS)
    number = int(text_of(octets[place:behind]))
    return ("int", number), _behind_mark(octets, behind, SEMICOLON)


def _read_octets(octets, place):
    """The octets whose number stands at the place, and the place behind them."""
    colon = _behind_digits(octets, place, MOST_COUNT_DIGITS)
    first = _behind_mark(octets, colon, COLON)
    behind = first + int(text_of(octets[place:colon]))
    if behind > len(octets):
        raise BadText(len(octets))
    return octets[first:behind], behind


def _read_list(octets, place, deep):
    items = []
    while octets[place:place + 1] != LIST_CLOSE:
        item, place = _read(octets, place, deep)
        items.append(item)
    return ("list", tuple(items)), place + 1


def _read_dict(octets, place, deep):
    pairs = []
    while octets[place:place + 1] != DICT_CLOSE:
        key, behind = _read_octets(octets, _behind_mark(octets, place, OCTETS))
        if pairs and key <= pairs[-1][0]:
            raise BadText(place)
        item, place = _read(octets, behind, deep)
        pairs.append((key, item))
    return ("dict", tuple(pairs)), place + 1


def _behind_digits(octets, first, most):
    """The place behind a number of at most so many digits, without leading zeros."""
    place = first
    while place < len(octets) and FIRST_DIGIT <= octets[place] <= LAST_DIGIT:
        if place - first == most or octets[first:place] == ZERO:
            raise BadText(place)
        place += 1
    if place == first:
        raise BadText(place)
    return place


def _behind_mark(octets, place, mark):
    # If the octets end here, the place is their number, so one error serves both cases.
    if octets[place:place + 1] != mark:
        raise BadText(place)
    return place + 1


def entry(value, key):
    """The value of a key of a dictionary, or None."""
    for held, item in value[1]:
        if held == key:
            return item
    return None


def dict_of(pairs):
    """The dictionary of pairs of keys and values that come in any order."""
    if not all(_is_keyed(pair) for pair in pairs):
        raise BadValue()
    value = ("dict", tuple(sorted(pairs, key=lambda pair: pair[0])))
    # Keys that stand there twice are not in strictly ascending order.
    if not is_value(value):
        raise BadValue()
    return value

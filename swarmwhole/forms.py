"""Values of a due form: what texts are written of, and what is read from them (points 303, 902, 906 and 1003).

What reads here raises BadValue if a value has another form.
"""

from swarmwhole.digests import SHA, SUM
from swarmwhole.errors import BadText, BadValue
from swarmwhole.octets import is_octets, octets_of
from swarmwhole.values import decode, dict_of

# What stands in a text for None.
NOTHING = ("dict", ())


def list_value(items):
    """The list of values."""
    return ("list", tuple(items))


def octets_list(rows):
    """The list of octets."""
    return list_value([("octets", octets) for octets in rows])


def int_list(numbers):
    """The list of integers."""
    return list_value([("int", number) for number in numbers])


def word_value(word):
    """The octets of a string."""
    return ("octets", octets_of(word))


def kind_value(kind):
    """The list of the name of a kind of digests and its number of octets."""
    return list_value([word_value(kind[0]), ("int", kind[1])])


def table_value(table):
    """The dictionary of the values by the names of their keys."""
    return dict_of([(octets_of(name), value) for name, value in table.items()])


def value_in(octets):
    """The value whose text the octets are, for any value of them."""
    if not is_octets(octets):
        raise BadValue()
    try:
        return decode(octets)
    except BadText:
        raise BadValue() from None


def _held(value, word):
    """What a value of the sort that the word tells holds."""
    if value[0] != word:
        raise BadValue()
    return value[1]


def int_in(value):
    """The integer that a value is."""
    return _held(value, "int")


def octets_in(value):
    """The octets that a value is."""
    return _held(value, "octets")


def list_in(value):
    """The items of a list."""
    return _held(value, "list")


def pair_in(value):
    """The two items of a list of two."""
    items = list_in(value)
    if len(items) != 2:
        raise BadValue()
    return items


def octets_rows_in(value):
    """The tuple of the octets of a list of octets."""
    return tuple([octets_in(item) for item in list_in(value)])


def ints_in(value):
    """The tuple of the integers of a list of integers."""
    return tuple([int_in(item) for item in list_in(value)])


def table_in(value, names):
    """The list of the values of a dictionary that has just the keys with these names, in ascending order."""
    pairs = _held(value, "dict")
    if [key for key, _ in pairs] != [octets_of(name) for name in names]:
        raise BadValue()
    return [item for _, item in pairs]


def word_in(value, words):
    """The one of the words whose octets a value is; other octets stay what they are, and are no word for a check."""
    octets = octets_in(value)
    for word in words:
        if octets == octets_of(word):
            return word
    return octets


def kind_in(value):
    """The kind of digests that a list tells of; its items may still be wrong."""
    word, size = pair_in(value)
    return (word_in(word, (SHA, SUM)), int_in(size))

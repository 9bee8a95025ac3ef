"""Octets: tuples of integers from 0 to 255, and what is written with them (points 101 to 103)."""

from swarmwhole.errors import BadOctets

# The characters that have octets, in two runs: the percent sign (37) between them has none.
LOW_CHARACTERS = " !\"#$"
HIGH_CHARACTERS = "&'()*+,-./0123456789:;<=>?@ABCDEFGHIJKLMNOPQRSTUVWXYZ[\\]^_`abcdefghijklmnopqrstuvwxyz{|}~"
PERCENT = 37
BLANK = 32
TILDE = 126

HEX_DIGITS = "0123456789abcdef"


def is_integer(value):
    """True for an integer that is not a truth value, for any value."""
    return isinstance(value, int) and not isinstance(value, bool)


def is_octet(value):
    """True for an integer from 0 to 255, for any value."""
    return is_integer(value) and 0 <= value <= 255


def is_octets(value, *, size=None):
    """True for octets, of so many items if a size is given, for any value."""
    if not isinstance(value, tuple):
        return False
    if size is not None and len(value) != size:
        return False
    # Pieces are long, so the test of each octet is written out here instead of called.
    for item in value:
        if not isinstance(item, int) or isinstance(item, bool) or not 0 <= item <= 255:
            return False
    return True


def octets_of(text):
    """The octets of a string: the codes of its characters."""
    codes = tuple([ord(character) for character in text])
    if not all(_has_character(code) for code in codes):
        raise BadOctets()
    return codes


def text_of(octets):
    """The string of octets."""
    if not all(_has_character(octet) for octet in octets):
        raise BadOctets()
    return "".join([_character(octet) for octet in octets])


def _has_character(code):
    return BLANK <= code <= TILDE and code != PERCENT


def _character(octet):
    if octet < PERCENT:
        return LOW_CHARACTERS[octet - BLANK]
    return HIGH_CHARACTERS[octet - PERCENT - 1]


def number_of(octets):
    """The integer that octets write, the greatest part first."""
    number = 0
    for octet in octets:
        number = number * 256 + octet
    return number


def as_octets(number, *, size):
    """The octets, so many, that write an integer, the greatest part first."""
    # A negative number stays negative, however far it is moved.
    if number >> (8 * size) != 0:
        raise BadOctets()
    return tuple([(number >> (8 * place)) & 255 for place in reversed(range(size))])


def hex_of(octets):
    """The hexadecimal text of octets."""
    return "".join([HEX_DIGITS[octet >> 4] + HEX_DIGITS[octet & 15] for octet in octets])


def from_hex(text):
    """The octets of a hexadecimal text."""
    digits = [HEX_DIGITS.find(character) for character in text]
    if -1 in digits or len(digits) & 1 == 1:
        raise BadOctets()
    return tuple([digits[place] * 16 + digits[place + 1] for place in range(0, len(digits), 2)])


def joined(parts):
    """The octets of all parts, one behind the other."""
    found = []
    for part in parts:
        found.extend(part)
    return tuple(found)


def cut(octets, size):
    """The list of the parts of so many octets, in order; the last one may be shorter."""
    return [octets[place:place + size] for place in range(0, len(octets), size)]

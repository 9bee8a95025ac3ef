"""Messages as they are written (points 400 to 402), for what is known to be a description.

A reader and a peer ask once whether they have a description, and not again at each message.
"""

from swarmwhole.errors import BadMessage
from swarmwhole.layout import count_of, length_of
from swarmwhole.octets import as_octets, cut, is_integer, is_octet, is_octets, joined, number_of
from swarmwhole.trees import depth

# The place of a word is the octet that a message with this word begins with.
WORDS = ("hello", "field", "have", "wish", "nowish", "choke", "unchoke", "ask", "piece", "refuse")
INDEX_WORDS = ("have", "ask", "refuse")
PLAIN_WORDS = ("wish", "nowish", "choke", "unchoke")
INDEX_SIZE = 4


def is_right(description, value):
    """True for a message for the description, for any value."""
    if not isinstance(value, tuple) or len(value) == 0:
        return False
    word, *items = value
    if word in PLAIN_WORDS:
        return len(items) == 0
    if word in INDEX_WORDS:
        return len(items) == 1 and _is_index(description, items[0])
    if word == "hello":
        return len(items) == 2 and is_octet(items[0]) and is_octets(items[1], size=_digest_size(description))
    if word == "field":
        return len(items) == 1 and _are_flags(description, items[0])
    return word == "piece" and len(items) == 3 and _is_piece(description, *items)


def _digest_size(description):
    return description[1][1]


def _is_index(description, value):
    return is_integer(value) and 0 <= value < count_of(description)


def _are_flags(description, value):
    if not isinstance(value, tuple) or len(value) != count_of(description):
        return False
    return all(isinstance(flag, bool) for flag in value)


def _is_piece(description, index, octets, proof):
    if not _is_index(description, index) or not is_octets(octets, size=length_of(description, index)):
        return False
    if not isinstance(proof, tuple) or len(proof) != depth(count_of(description)):
        return False
    size = _digest_size(description)
    return all(is_octets(item, size=size) for item in proof)


def written(message):
    """The octets of a message."""
    word, *items = message
    head = (WORDS.index(word),)
    if word == "hello":
        version, identity = items
        return head + (version,) + identity
    if word == "field":
        return head + _flag_octets(items[0])
    if word in INDEX_WORDS:
        return head + as_octets(items[0], size=INDEX_SIZE)
    if word == "piece":
        index, octets, proof = items
        return joined([head, as_octets(index, size=INDEX_SIZE), *proof, octets])
    return head


def _flag_octets(flags):
    return tuple([_flag_octet(eight) for eight in cut(flags, 8)])


def _flag_octet(flags):
    return sum([128 >> place for place, flag in enumerate(flags) if flag])


def read_message(description, octets):
    """The message with these octets; raises BadMessage if there is none."""
    if octets == () or octets[0] >= len(WORDS):
        raise BadMessage()
    message = _likely_message(description, WORDS[octets[0]], octets[1:])
    # What is too short makes no message, and what is too long or has stray bits is not what the message writes.
    if not is_right(description, message) or written(message) != octets:
        raise BadMessage()
    return message


def _likely_message(description, word, octets):
    """The only message with this word that these octets, behind that of the word, may be those of."""
    if word == "hello":
        return (word, number_of(octets[:1]), octets[1:])
    if word == "field":
        flags = [octet & (128 >> place) != 0 for octet in octets for place in range(8)]
        return (word, tuple(flags[:count_of(description)]))
    if word in INDEX_WORDS:
        return (word, number_of(octets[:INDEX_SIZE]))
    if word == "piece":
        size = _digest_size(description)
        behind = INDEX_SIZE + size * depth(count_of(description))
        proof = tuple(cut(octets[INDEX_SIZE:behind], size))
        return (word, number_of(octets[:INDEX_SIZE]), octets[behind:], proof)
    return (word,)


def greatest(description):
    """The greatest number of octets that a message of the description has."""
    size = _digest_size(description)
    count = count_of(description)
    hello = 2 + size
    field = 1 + (count + 7) // 8
    # No piece is longer than the first one, and no index is alone longer than one with a piece.
    piece = 1 + INDEX_SIZE + size * depth(count) + length_of(description, 0)
    return max(hello, field, piece)

"""The messages of neighbours, and their octets (points 400 to 402)."""

from swarmwhole.descriptions import check_description
from swarmwhole.errors import BadMessage
from swarmwhole.octets import is_octets
from swarmwhole.wire import greatest, is_right, read_message, written


def is_message(description, value):
    """True for a message for the description, for any value."""
    check_description(description)
    return is_right(description, value)


def message_octets(description, message):
    """The octets of a message, for any value of it."""
    check_description(description)
    if not is_right(description, message):
        raise BadMessage()
    return written(message)


def message_of(description, octets):
    """The message with these octets, for any value of them."""
    check_description(description)
    if not is_octets(octets):
        raise BadMessage()
    return read_message(description, octets)


def most_octets(description):
    """The greatest number of octets that a message of the description has."""
    check_description(description)
    return greatest(description)

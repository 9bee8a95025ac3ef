"""Frames, and the reader of a stream of them (points 403 to 407)."""

from swarmwhole.errors import BadMessage
from swarmwhole.messages import message_octets, most_octets
from swarmwhole.octets import as_octets, number_of
from swarmwhole.wire import read_message

LENGTH_SIZE = 4
# The words with which a conversation begins, in order; none of them comes again.
FIRST_WORDS = ("hello", "field")


def frame(description, message):
    """The octets of the frame of a message, for any value of it."""
    return framed(message_octets(description, message))


def framed(octets):
    """The octets of the frame of the message with these octets."""
    return as_octets(len(octets), size=LENGTH_SIZE) + octets


class Reader:
    """Reads the stream of frames that a neighbour sends, in whatever chunks it comes."""

    def __init__(self, description):
        self._most = most_octets(description)
        self._description = description
        # The octets of the frame that has not ended, and the length that it tells once four of them have come.
        self._kept = []
        self._length = 0
        self._place = 0
        self._heard = 0
        self._fault = None

    def feed(self, octets):
        """The tuple of the messages that end in this chunk."""
        messages = []
        for octet in octets:
            if self._fault is not None:
                break
            message = self._take(octet)
            if message is not None:
                messages.append(message)
        return tuple(messages)

    def _take(self, octet):
        """The message that ends with this octet, or None."""
        self._place += 1
        self._kept.append(octet)
        if len(self._kept) == LENGTH_SIZE:
            self._take_length()
        elif len(self._kept) == LENGTH_SIZE + self._length:
            return self._take_frame()
        return None

    def _take_length(self):
        self._length = number_of(tuple(self._kept))
        if not 1 <= self._length <= self._most:
            self._find("length")

    def _take_frame(self):
        octets = tuple(self._kept[LENGTH_SIZE:])
        self._kept = []
        try:
            message = read_message(self._description, octets)
        except BadMessage:
            self._find("message")
            return None
        if not self._is_due(message[0]):
            self._find("order")
            return None
        self._heard += 1
        return message

    def _is_due(self, word):
        if self._heard < len(FIRST_WORDS):
            return word == FIRST_WORDS[self._heard]
        return word not in FIRST_WORDS

    def _find(self, fault):
        self._fault = fault
        self._kept = []

    def fault(self):
        """The word of the fault that was found, or None."""
        return self._fault

    def place(self):
        """How many octets of the stream were read."""
        return self._place

    def waiting(self):
        """How many octets of a frame that has not ended are kept."""
        return len(self._kept)

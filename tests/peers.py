"""A peer with its disk and store, and words for what comes to it and what it does."""

from swarmwhole.descriptions import identity
from swarmwhole.frames import frame
from swarmwhole.messages import message_of
from swarmwhole.peer import Peer
from tests.samples import Sample

# Five pieces, the last one of 3 octets, with digests of 2 octets and a tree 3 deep.
FIVE = Sample(9, 0, 10)


def flags(text):
    """Claims from a string: x stands for True."""
    return tuple(character == "x" for character in text)


class Side:
    """A peer whose store has some pieces."""

    def __init__(self, *had, sample=FIVE, policy=None):
        self.sample = sample
        self.disk = sample.disk()
        self.store = sample.store(*had, disk=self.disk)
        self.peer = Peer(sample.description, self.store, policy=policy)
        self.hello = ("hello", 1, identity(sample.description))

    def piece(self, index):
        """The message with a piece."""
        return ("piece", index, self.sample.pieces[index], self.sample.proofs[index])

    def stream(self, *messages):
        """The octets of messages, or octets as they are."""
        parts = [frame(self.sample.description, message) if isinstance(message[0], str) else message
                 for message in messages]
        return sum(parts, ())

    def say(self, number, *messages):
        """Messages, or octets as they are, come from a neighbour in one chunk."""
        self.peer.received(number, self.stream(*messages))

    def join(self, number, *claims):
        """A connection begins; the neighbour sends hello, and field if claims are told; what comes of it is taken."""
        self.peer.connected(number)
        self.say(number, self.hello, *[("field", flags(text)) for text in claims])
        self.clear()

    def did(self):
        """The deeds, with messages in place of octets."""
        found = []
        for word, number, *octets in self.peer.deeds():
            if word == "send":
                (sent,) = octets
                message = message_of(self.sample.description, sent[4:])
                assert sent == frame(self.sample.description, message)
                found.append(("send", number, message))
            else:
                assert (word, octets) == ("close", [])
                found.append((word, number))
        return found

    def saw(self):
        """The events."""
        return self.peer.events()

    def clear(self):
        """Forgets all deeds and events until now."""
        self.peer.deeds()
        self.peer.events()

    def tick(self):
        """The deeds and the events of the end of a tick."""
        self.peer.tick()
        return self.did(), self.saw()

    def ticks(self, count):
        """The deeds of the ends of so many ticks, in a list for each one; the events are dropped."""
        found = []
        for _ in range(count):
            self.peer.tick()
            found.append(self.did())
            self.saw()
        return found

    def sync(self):
        """The deeds and the events of a sync."""
        self.peer.synced()
        return self.did(), self.saw()

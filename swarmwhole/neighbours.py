"""What a peer knows of a neighbour while the connection is up (points 601 and 602)."""

from swarmwhole.frames import Reader


class Neighbour:
    """What a neighbour has told, and what it was told last."""

    def __init__(self, description):
        self.reader = Reader(description)
        # The pieces that it claims, a flag for each piece; None as long as it has not sent its field.
        self.claims = None
        # Whether it wishes pieces of the peer, and whether it was told that it may ask for them.
        self.wishing = False
        self.serving = False
        # Whether the peer wishes pieces of it, may ask for them, and which one it has asked for.
        self.wished = False
        self.free = False
        self.asked = None

    def hear(self, message):
        """Takes a message that needs nothing but what is known of the neighbour."""
        word = message[0]
        if word == "field":
            self.claims = message[1]
        elif word == "have":
            self._claim(message[1])
        elif word == "wish" or word == "nowish":
            self.wishing = word == "wish"
        elif word == "unchoke":
            self.free = True
        elif word == "choke":
            self.free = False
            self.asked = None
        elif word == "refuse":
            self.answer(message[1])

    def _claim(self, index):
        # A new tuple: policies may keep the one before.
        self.claims = self.claims[:index] + (True,) + self.claims[index + 1:]

    def answer(self, index):
        """An answer for a piece has come: if it was asked for, nothing is asked of the neighbour any more."""
        if self.asked == index:
            self.asked = None

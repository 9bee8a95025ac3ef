"""A peer: an honest member of a swarm (points 600 to 610)."""

from swarmwhole.descriptions import identity, piece_count
from swarmwhole.errors import BadPiece
from swarmwhole.frames import framed
from swarmwhole.gifts import Gifts
from swarmwhole.limits import VERSION
from swarmwhole.neighbours import Neighbour
from swarmwhole.turns import Turns
from swarmwhole.wire import written
from swarmwhole.wishes import Rarest


class Peer:
    """Answers what comes from its neighbours with deeds, and tells events of it."""

    def __init__(self, description, store, *, policy=None):
        self._count = piece_count(description)
        self._identity = identity(description)
        self._description = description
        self._store = store
        self._policy = Rarest() if policy is None else policy
        # What is known of the neighbours whose connection is up, and those that are not taken any more.
        self._near = {}
        self._barred = {}
        self._turns = Turns()
        self._gifts = Gifts()
        self._deeds = []
        self._events = []

    def takes(self, neighbour):
        """True if the neighbour is not barred and not connected."""
        return neighbour not in self._barred and neighbour not in self._near

    def connected(self, neighbour):
        """The connection to a neighbour begins."""
        self._near[neighbour] = Neighbour(self._description)
        self._events.append(("up", neighbour))
        self._send(neighbour, ("hello", VERSION, self._identity))
        had = set(self._store.had())
        self._send(neighbour, ("field", tuple([index in had for index in range(self._count)])))

    def broken(self, neighbour):
        """The connection to a neighbour has ended."""
        if neighbour in self._near:
            self._end(neighbour)

    def _end(self, neighbour):
        del self._near[neighbour]
        self._turns.leave(neighbour)
        self._events.append(("down", neighbour))

    def _send(self, neighbour, message):
        self._deeds.append(("send", neighbour, framed(written(message))))

    def received(self, neighbour, octets):
        """Octets have come from a neighbour that is connected."""
        reader = self._near[neighbour].reader
        for message in reader.feed(octets):
            self._events.append(("got", neighbour, message))
            self._take(neighbour, message)
            # Who was barred by a message is not listened to any more, not even for a fault.
            if neighbour not in self._near:
                return
        if reader.fault() is not None:
            self._events.append(("got", neighbour, None))
            self._tell(neighbour)

    def _take(self, neighbour, message):
        word = message[0]
        if word == "hello":
            if message != ("hello", VERSION, self._identity):
                self._bar(neighbour)
        elif word == "ask":
            self._answer(neighbour, message[1])
        elif word == "piece":
            self._take_piece(neighbour, message)
        else:
            self._near[neighbour].hear(message)

    def _answer(self, neighbour, index):
        if self._near[neighbour].serving and index in self._store.had():
            self._send(neighbour, ("piece", index, self._store.piece(index), self._store.proof(index)))
        else:
            self._send(neighbour, ("refuse", index))

    def _take_piece(self, neighbour, message):
        _, index, octets, proof = message
        try:
            self._store.put(index, octets, proof)
        except BadPiece:
            self._tell(neighbour)
            return
        self._near[neighbour].answer(index)
        self._gifts.note(neighbour)

    def _tell(self, neighbour):
        self._events.append(("told", neighbour))
        self._bar(neighbour)

    def _bar(self, neighbour):
        self._barred[neighbour] = True
        self._deeds.append(("close", neighbour))
        self._end(neighbour)

    def tick(self):
        """The end of a tick: deals the slots, tells the wishes, and asks."""
        ready = [number for number in sorted(self._near) if self._near[number].claims is not None]
        held = self._store.held()
        self._deal(ready)
        self._wish(ready, held)
        self._ask(ready, held)
        self._gifts.step()

    def _deal(self, ready):
        wishing = [number for number in ready if self._near[number].wishing]
        dealt = self._turns.step(wishing, self._gifts.totals())
        if dealt is not None:
            self._events.append(("turn", dealt))
        served = self._turns.served()
        for number in ready:
            neighbour = self._near[number]
            if neighbour.serving != (number in served):
                neighbour.serving = not neighbour.serving
                self._send(number, ("unchoke",) if neighbour.serving else ("choke",))

    def _wish(self, ready, held):
        for number in ready:
            neighbour = self._near[number]
            wished = len(self._policy.wants(neighbour.claims, held)) > 0
            if neighbour.wished != wished:
                neighbour.wished = wished
                self._send(number, ("wish",) if wished else ("nowish",))

    def _ask(self, ready, held):
        for number in ready:
            neighbour = self._near[number]
            if neighbour.free and neighbour.asked is None and neighbour.wished:
                fields = [self._near[other].claims for other in ready]
                asked = [self._near[other].asked for other in ready if other != number]
                index = self._policy.choose(neighbour.claims, held, fields, asked)
                if index is not None:
                    neighbour.asked = index
                    self._send(number, ("ask", index))

    def synced(self):
        """The sync: tells the neighbours what the store has from now on."""
        for index in self._store.sync():
            self._events.append(("had", index, self._store.piece(index), self._store.proof(index)))
            for number in sorted(self._near):
                self._send(number, ("have", index))

    def deeds(self):
        """A new list of the deeds since the last call."""
        deeds = self._deeds
        self._deeds = []
        return deeds

    def events(self):
        """A new list of the events since the last call."""
        events = self._events
        self._events = []
        return events

"""A swarm: honest peers and forgers, to which a schedule brings what it likes (points 701 to 706)."""

from swarmwhole.descriptions import piece_count
from swarmwhole.digests import Hasher
from swarmwhole.disk import Disk
from swarmwhole.errors import BadSwarm, DiskFell
from swarmwhole.layout import count_of, length_of
from swarmwhole.lines import Lines
from swarmwhole.logs import Log
from swarmwhole.octets import is_octets
from swarmwhole.peer import Peer
from swarmwhole.schedules import check_schedule, check_world
from swarmwhole.store import Store, disk_size
from swarmwhole.trees import proofs, root


def _check_pieces(description, pieces):
    """Raises BadSwarm if the value is not the tuple of the pieces that the root is made of, for any value."""
    if not isinstance(pieces, tuple) or len(pieces) != count_of(description):
        raise BadSwarm()
    if not all([is_octets(piece, size=length_of(description, index)) for index, piece in enumerate(pieces)]):
        raise BadSwarm()
    if root(Hasher(description[1]), pieces) != description[4]:
        raise BadSwarm()


class Swarm:
    """Plays the ticks of a swarm, and keeps the log of them."""

    def __init__(self, description, pieces, world, *, policies=None):
        check_world(world, piece_count(description))
        _check_pieces(description, pieces)
        honest, forgers, pairs = world
        self.log = Log()
        self.now = 0
        self._description = description
        self._policies = {} if policies is None else dict(policies)
        self._honest = [number for number, _ in honest]
        self._forgers = forgers
        self._pairs = {pair: True for pair in pairs}
        self._lines = Lines()
        self._disks = {}
        # Those that run, and what the fall keeps that comes of the arming of a disk.
        self._stores = {}
        self._peers = {}
        self._kept = {}
        self._begin(pieces, honest)

    def _begin(self, pieces, honest):
        ways = proofs(Hasher(self._description[1]), pieces)
        for number, there in honest:
            self._disks[number] = Disk(disk_size(self._description))
            store = Store(self._disks[number], self._description)
            for index in there:
                store.put(index, pieces[index], ways[index])
            store.sync()
            self._start(number)

    def _start(self, number):
        store = Store(self._disks[number], self._description)
        self._stores[number] = store
        self._peers[number] = Peer(self._description, store, policy=self._policies.get(number))
        self._add(number, ("start", store.life(), store.had()))
        for index in store.had():
            self._add(number, ("had", index, store.piece(index), store.proof(index)))

    def _add(self, number, event):
        self.log.add((self.now, number) + event)

    def tick(self, events):
        """Goes on by a tick with these events."""
        for event in events:
            self._happen(event)
        for number in self._honest:
            if number in self._peers:
                self._peers[number].tick()
                self._settle(number)
        for number in self._honest:
            if number in self._peers:
                self._sync(number)
        self.now += 1

    def run(self, schedule):
        """Goes on by a schedule, for any value."""
        check_schedule(schedule)
        for events in schedule:
            self.tick(events)

    def quiet(self, ticks):
        """Goes on by so many quiet ticks."""
        for _ in range(ticks):
            self.tick(self._quiet_events())

    def _quiet_events(self):
        events = [("rise", number) for number in self._honest]
        events.extend([("join", one, other) for one, other in self._pairs])
        for one, other in self._lines.pairs():
            events.append(("flow", one, other, None))
            events.append(("flow", other, one, None))
        return tuple(events)

    def store(self, number):
        """The store of an honest peer that runs, otherwise None."""
        return self._stores.get(number)

    def had(self, number):
        """The tuple of the pieces that an honest peer that runs has, otherwise None."""
        return self._stores[number].had() if number in self._stores else None

    def _happen(self, event):
        word, *items = event
        if word == "join":
            self._join(*items)
        elif word == "cut":
            self._cut(*items)
        elif word == "flow":
            self._flow(*items)
        elif word == "forge":
            self._forge(*items)
        elif word == "arm":
            self._arm(*items)
        elif word == "fall":
            self._fall(*items)
        elif word == "rise":
            self._rise(*items)

    def _join(self, one, other):
        if (one, other) not in self._pairs or self._lines.is_up(one, other):
            return
        if not self._takes(one, other) or not self._takes(other, one):
            return
        self._lines.begin(one, other)
        for number, neighbour in ((one, other), (other, one)):
            if number in self._peers:
                self._peers[number].connected(neighbour)
                self._settle(number)

    def _takes(self, number, neighbour):
        """True if the one of them is there, and takes the other one as a neighbour."""
        if number in self._forgers:
            return True
        return number in self._peers and self._peers[number].takes(neighbour)

    def _cut(self, one, other):
        if self._lines.is_up(one, other):
            self._end(one, other)

    def _end(self, one, other):
        """Ends a connection that is up; the lesser one is told first."""
        self._lines.finish(one, other)
        for number, neighbour in ((one, other), (other, one)):
            if number in self._peers:
                self._peers[number].broken(neighbour)
                self._settle(number)

    def _flow(self, sender, receiver, count):
        if not self._lines.is_up(sender, receiver):
            return
        octets = self._lines.arrive(sender, receiver, count)
        if octets == () or receiver not in self._peers:
            return
        try:
            self._peers[receiver].received(sender, octets)
        except DiskFell:
            self._lapse(receiver)
            return
        self._settle(receiver)

    def _forge(self, forger, neighbour, octets):
        if forger in self._forgers and self._lines.is_up(forger, neighbour):
            self._lines.send(forger, neighbour, octets)

    def _arm(self, number, count, kept):
        if number in self._peers:
            self._disks[number].arm(count)
            self._kept[number] = kept

    def _fall(self, number, kept):
        if number not in self._peers:
            return
        for one, other in self._lines.pairs():
            if number in (one, other):
                self._end(one, other)
        self._disks[number].fall(kept)
        del self._peers[number]
        del self._stores[number]
        self._add(number, ("fall",))

    def _rise(self, number):
        if number in self._disks and number not in self._peers:
            self._start(number)

    def _sync(self, number):
        try:
            self._peers[number].synced()
        except DiskFell:
            self._lapse(number)
            return
        self._settle(number)

    def _lapse(self, number):
        """The disk of a peer fell in the middle of a call: what it has told is kept, but not what it has done."""
        self._write_events(number)
        self._peers[number].deeds()
        self._fall(number, self._kept[number])

    def _write_events(self, number):
        for event in self._peers[number].events():
            self._add(number, event)

    def _settle(self, number):
        """Takes the events and the deeds of a peer behind a call."""
        self._write_events(number)
        for word, neighbour, *items in self._peers[number].deeds():
            if word == "send" and self._lines.is_up(number, neighbour):
                self._lines.send(number, neighbour, items[0])
            if word == "close":
                self._end(min(number, neighbour), max(number, neighbour))

"""Drawn worlds and schedules, with forgers that know how to talk."""

from swarmwhole.descriptions import identity
from swarmwhole.frames import frame


def collision(piece):
    """Other octets with the same plain sum of any size, or None."""
    for place in range(len(piece) - 1):
        if piece[place] < 255 and piece[place + 1] >= 31:
            return piece[:place] + (piece[place] + 1, piece[place + 1] - 31) + piece[place + 2:]
        if piece[place] > 0 and piece[place + 1] < 225:
            return piece[:place] + (piece[place] - 1, piece[place + 1] + 31) + piece[place + 2:]
    return None


def connected(numbers, pairs):
    """True if the pairs among the numbers connect all of them."""
    near = set(numbers[:1])
    while True:
        more = {two for one, other in pairs for two in (one, other)
                if (one in near or other in near) and two in numbers}
        more = {two for two in more if two in near or any(
            (min(two, other), max(two, other)) in pairs for other in near)}
        if more <= near:
            return near == set(numbers)
        near |= more


def draw_world(chance, count, forgers):
    """Honest peers with every piece among them, forgers, and pairs that connect the honest ones."""
    numbers = chance.sample(range(20), chance.randrange(2, 6) + forgers)
    liars = tuple(sorted(numbers[:forgers]))
    honest = sorted(numbers[forgers:])
    there = {number: set() for number in honest}
    for index in range(count):
        there[chance.choice(honest)].add(index)
    every = [(one, other) for one in numbers for other in numbers if one < other]
    pairs = set(chance.sample(every, chance.randrange(len(every) + 1)))
    for place in range(1, len(honest)):
        other = chance.choice(honest[:place])
        pairs.add((min(other, honest[place]), max(other, honest[place])))
    return tuple((number, tuple(sorted(there[number]))) for number in honest), liars, tuple(sorted(pairs))


class Liar:
    """Draws what forgers send."""

    def __init__(self, chance, sample):
        self.chance = chance
        self.sample = sample

    def greeting(self):
        claims = tuple(self.chance.random() < 0.7 for _ in self.sample.pieces)
        hello = ("hello", 1, identity(self.sample.description))
        return self.frames(hello, ("field", claims), ("wish",), ("unchoke",))

    def frames(self, *messages):
        return sum((frame(self.sample.description, message) for message in messages), ())

    def octets(self):
        """The octets of something that may come behind a greeting, mostly of what fits."""
        chance, sample = self.chance, self.sample
        index = chance.randrange(len(sample.pieces))
        deed = chance.randrange(40)
        if deed == 0:
            return tuple(chance.randrange(256) for _ in range(chance.randrange(1, 30)))
        if deed == 1:
            return (0, 0, 0, chance.choice((0, 1, 1, 2)), chance.randrange(12))
        if deed == 2:
            return self.frames(("piece", index, sample.pieces[index][::-1], sample.proofs[index]))
        if deed <= 20:
            octets = collision(sample.pieces[index]) or sample.pieces[index]
            return self.frames(("piece", index, octets, sample.proofs[index]))
        if deed <= 23:
            return self.frames(("piece", index, sample.pieces[index], sample.proofs[index]))
        return self.frames(chance.choice((("wish",), ("wish",), ("nowish",), ("choke",), ("unchoke",), ("ask", index),
                                          ("have", index), ("refuse", index))))


def draw_events(chance, world, liar, arms=True):
    """The events of a tick that brings whatever it likes."""
    honest, forgers, pairs = world
    numbers = [number for number, _ in honest]
    events = []
    for number in numbers:
        if chance.randrange(2) == 0:
            events.append(("rise", number))
    for one, other in pairs:
        lies = [pair for pair in ((one, other), (other, one)) if pair[0] in forgers]
        if lies and chance.randrange(8) == 0:
            # Only a connection that is new is greeted rightly.
            events += [("cut", one, other), ("join", one, other)]
            events += [("forge", *pair, liar.greeting()) for pair in lies]
        elif not lies and chance.randrange(2) == 0:
            events.append(("join", one, other))
        events += [("forge", *pair, liar.octets()) for pair in lies if chance.randrange(3) == 0]
        for sender, receiver in ((one, other), (other, one)):
            if chance.randrange(4) > 0:
                events.append(("flow", sender, receiver, chance.choice((None, None, None, 0, 1, 7, 30))))
        if chance.randrange(30) == 0:
            events.append(("cut", one, other))
    for number in numbers:
        kept = tuple(chance.randrange(9) for _ in range(chance.randrange(6)))
        if arms and chance.randrange(15) == 0:
            events.append(("arm", number, chance.randrange(6), kept))
        if chance.randrange(40) == 0:
            events.append(("fall", number, kept))
    if chance.randrange(3) == 0:
        chance.shuffle(events)
    return tuple(events)


class Follow:
    """Follows the log of a swarm, and tells from it alone which connections are up."""

    def __init__(self, swarm, world):
        self.swarm = swarm
        self.world = world
        self.read = 0
        self.up = set()

    def connections(self):
        rows = self.swarm.log.rows()
        for _, peer, kind, *items in rows[self.read:]:
            if kind in ("up", "down"):
                pair = (min(peer, items[0]), max(peer, items[0]))
                self.up = self.up | {pair} if kind == "up" else self.up - {pair}
        self.read = len(rows)
        return sorted(self.up)

    def quiet_events(self, between=()):
        """The events of a quiet tick, and others ahead of what is delivered."""
        honest, _, pairs = self.world
        up = self.connections()
        events = [("rise", number) for number, _ in honest] + [("join", *pair) for pair in pairs]
        events += between
        for one, other in up:
            events += [("flow", one, other, None), ("flow", other, one, None)]
        return tuple(events)

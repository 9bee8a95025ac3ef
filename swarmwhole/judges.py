"""Judges: they look at a log and at what was described, and tell the first fault (points 803 to 810)."""

from swarmwhole.digests import Hasher
from swarmwhole.having import Having
from swarmwhole.layout import count_of
from swarmwhole.store import fits
from swarmwhole.trees import parted
from swarmwhole.waits import Waits
from swarmwhole.watch import Watch


def piece_fault(description, rows):
    """The first piece that a peer has and that does not fit."""
    hasher = Hasher(description[1])
    for tick, peer, kind, *items in rows:
        if kind == "had" and not fits(hasher, description, *items):
            return ("unfit", tick, peer, items[0])
    return None


def kept_fault(rows):
    """The first life that is not greater than the one before, or piece that was had and is lost."""
    having = Having()
    lives = {}
    for row in rows:
        tick, peer, kind, *items = row
        if kind == "start":
            life, there = items
            if peer in lives and life <= lives[peer]:
                return ("life", tick, peer)
            lost = [index for index in having.of(peer) if index not in there]
            if len(lost) > 0:
                return ("lost", tick, peer, min(lost))
            lives[peer] = life
        having.look(row)
    return None


def collisions(description, pieces, rows):
    """The list of the pairs of different texts with one digest, for the pieces that are had and not described."""
    hasher = Hasher(description[1])
    found = []
    for _, _, kind, *items in rows:
        if kind == "had" and fits(hasher, description, *items):
            index, octets, proof = items
            if octets != pieces[index]:
                found.append(parted(hasher, pieces, index, octets, proof))
    return found


def told_fault(description, honest, rows):
    """The first one that is told wrongly, connected again, or spared."""
    watch = Watch(description, honest)
    for row in rows:
        fault = watch.look(row)
        if fault is not None:
            return fault
    return watch.spared()


def claim_fault(honest, rows):
    """The first piece that an honest peer claims or gives to another one, and has never had."""
    ever = {}
    for tick, peer, kind, *items in rows:
        if kind == "got" and peer in honest and items[0] in honest:
            lacked = [index for index in _claimed(items[1]) if (items[0], index) not in ever]
            if len(lacked) > 0:
                return ("claim", tick, peer, items[0], min(lacked))
        for index in _had_at(kind, items):
            ever[(peer, index)] = True
    return None


def _claimed(message):
    """The indexes of the pieces that a message claims or gives."""
    if message is None:
        return []
    if message[0] == "field":
        return [index for index, claimed in enumerate(message[1]) if claimed]
    return [message[1]] if message[0] in ("have", "piece") else []


def _had_at(kind, items):
    """The indexes of the pieces that a row says its peer has."""
    if kind == "start":
        return items[1]
    return items[:1] if kind == "had" else []


def turn_fault(honest, rows, bound):
    """The first neighbour that waits too long for a turn."""
    waits = Waits()
    for row in rows:
        late = waits.late(row[0], bound)
        if len(late) > 0:
            return ("turn", *min(late))
        if row[1] in honest:
            waits.look(row)
    return None


def lacking(description, honest, rows, tick):
    """How many pieces the honest peers lack altogether, as the rows up to a tick say."""
    having = Having()
    for row in rows:
        if row[0] <= tick:
            having.look(row)
    return _lacked(description, honest, having)


def _lacked(description, honest, having):
    count = count_of(description)
    there = [index for peer in honest for index in having.of(peer) if 0 <= index < count]
    return count * len(honest) - len(there)


def stuck(description, honest, rows, since, window):
    """The first tick from one on, behind which the lacking pieces do not become less within a window."""
    if len(rows) == 0:
        return None
    steps = _steps(description, honest, rows)
    # Only at these ticks one of the two numbers that are compared may have changed.
    changes = [changed - back for changed, _ in steps for back in (0, window)]
    for tick in sorted([since] + [changed for changed in changes if changed > since]):
        if tick + window > rows[-1][0]:
            return None
        lacked = _at(steps, tick)
        if lacked > 0 and _at(steps, tick + window) >= lacked:
            return tick
    return None


def _steps(description, honest, rows):
    """The pairs of a tick with rows and the number of lacking pieces behind it; the first one is ahead of all."""
    having = Having()
    steps = [(-1, _lacked(description, honest, having))]
    for place, row in enumerate(rows):
        having.look(row)
        if place + 1 == len(rows) or rows[place + 1][0] > row[0]:
            steps.append((row[0], _lacked(description, honest, having)))
    return steps


def _at(steps, tick):
    """The number of lacking pieces at a tick."""
    low, high = 0, len(steps)
    while high - low > 1:
        middle = (low + high) // 2
        if steps[middle][0] <= tick:
            low = middle
        else:
            high = middle
    return steps[low][1]


def forgers(rows):
    """The tuple of the numbers of all neighbours that are told."""
    return tuple(sorted(set([row[3] for row in rows if row[2] == "told"])))


def judge(description, pieces, honest, rows, bound):
    """The list of the faults that the judges find."""
    faults = [
        piece_fault(description, rows), kept_fault(rows), told_fault(description, honest, rows),
        claim_fault(honest, rows), turn_fault(honest, rows, bound),
    ]
    return [fault for fault in faults if fault is not None]

"""Points 804 to 808 once more: the judges and what the points say word by word, on drawn rows."""

import random
import unittest

from swarmwhole.judges import claim_fault, kept_fault, told_fault, turn_fault
from tests.peers import FIVE

HONEST = (1, 2)


def draw_rows(chance):
    """Rows of few peers, neighbours and ticks, so that much of it meets."""
    rows, tick = [], 0
    for _ in range(chance.randrange(14)):
        tick += chance.choice((0, 0, 0, 1, 3))
        peer, other, index = chance.choice((1, 2, 3)), chance.choice((1, 2, 3, 4)), chance.randrange(3)
        there = tuple(sorted(chance.sample(range(3), chance.randrange(4))))
        flags = tuple(place in there for place in range(5))
        good = ("piece", index, FIVE.pieces[index], FIVE.proofs[index])
        bad = ("piece", index, (0, 0, 0, 0), FIVE.proofs[index])
        message = chance.choice((None, good, bad, bad, ("wish",), ("wish",), ("nowish",), ("have", index),
                                 ("field", flags)))
        rows.append(chance.choice((
            (tick, peer, "start", chance.randrange(3), there), (tick, peer, "fall"), (tick, peer, "up", other),
            (tick, peer, "down", other), (tick, peer, "got", other, message), (tick, peer, "got", other, message),
            (tick, peer, "got", other, message), (tick, peer, "had", index, FIVE.pieces[index], FIVE.proofs[index]),
            (tick, peer, "told", other), (tick, peer, "told", other), (tick, peer, "turn", other))))
        if is_unfit(rows[-1]) and chance.randrange(2) == 0:
            rows.append((tick, peer, "told", other))
    return rows


def is_unfit(row):
    """True for a got row with a message that does not fit."""
    return row[2] == "got" and (row[4] is None or (row[4][0] == "piece" and row[4][2] == (0, 0, 0, 0)))


def had_at(rows, place, peer):
    """What a peer has at a row: of its last start row, and of its had rows behind it."""
    had = set()
    for row in rows[:place]:
        if row[1] == peer and row[2] == "start":
            had = set(row[4])
        if row[1] == peer and row[2] == "had":
            had.add(row[3])
    return had


def kept_as_told(rows):
    for place, (tick, peer, kind, *items) in enumerate(rows):
        if kind == "start":
            lives = [row[3] for row in rows[:place] if row[1:3] == (peer, "start")]
            if lives and items[0] <= lives[-1]:
                return ("life", tick, peer)
            lost = had_at(rows, place, peer) - set(items[1])
            if lost:
                return ("lost", tick, peer, min(lost))
    return None


def told_as_told(rows):
    for place, row in enumerate([*rows, (rows[-1][0] + 1 if rows else 0, 99, "end")]):
        before = rows[place - 1][0] if place else row[0]
        if row[0] > before:
            for at, other in enumerate(rows):
                if other[0] == before and other[1] in HONEST and is_unfit(other) and not any(
                        later[:4] == (before, other[1], "told", other[3]) for later in rows[at:]):
                    return ("spared", before, other[1], other[3])
        tick, peer, kind, *items = row
        ahead = rows[:place]
        if peer in HONEST and kind == "told":
            if not any(is_unfit(other) and other[:2] == (tick, peer) and other[3] == items[0] for other in ahead):
                return ("told", tick, peer, items[0])
            if items[0] in HONEST:
                return ("honest", tick, peer, items[0])
        if peer in HONEST and kind == "up":
            starts = [at for at, other in enumerate(ahead) if other[1:3] == (peer, "start")]
            since = ahead[starts[-1]:] if starts else ahead
            if any(other[1:] == (peer, "told", items[0]) for other in since):
                return ("again", tick, peer, items[0])
    return None


def claim_as_told(rows):
    for place, (tick, peer, kind, *items) in enumerate(rows):
        if kind == "got" and peer in HONEST and items[0] in HONEST and items[1] is not None:
            word, *more = items[1]
            claimed = [index for index in range(5) if (word == "field" and more[0][index])
                       or (word in ("have", "piece") and more[0] == index)]
            ever = set().union(*[had_at(rows, at, items[0]) for at in range(place + 1)])
            lacked = [index for index in claimed if index not in ever]
            if lacked:
                return ("claim", tick, peer, items[0], lacked[0])
    return None


def turn_as_told(rows, bound):
    for place, row in enumerate(rows):
        late = []
        for peer in HONEST:
            for neighbour in range(6):
                since = waits_since(rows[:place], peer, neighbour)
                if since is not None and row[0] - since > bound:
                    late.append((since, peer, neighbour))
        if late:
            return ("turn", *min(late))
    return None


def waits_since(rows, peer, neighbour):
    since = None
    for tick, at, kind, *items in rows:
        if at != peer:
            continue
        if kind == "fall" or (kind in ("turn", "down") and items[0] == neighbour):
            since = None
        if kind == "got" and items == [neighbour, ("nowish",)]:
            since = None
        if kind == "got" and items == [neighbour, ("wish",)] and since is None:
            since = tick
    return since


class Drawn(unittest.TestCase):
    def test_804_to_808(self):
        chance = random.Random(804)
        words = set()
        for _ in range(4000):
            rows = draw_rows(chance)
            bound = chance.randrange(4)
            found = (kept_fault(rows), told_fault(FIVE.description, HONEST, rows), claim_fault(HONEST, rows),
                     turn_fault(HONEST, rows, bound))
            due = (kept_as_told(rows), told_as_told(rows), claim_as_told(rows), turn_as_told(rows, bound))
            self.assertEqual(found, due)
            words |= {fault[0] if fault else None for fault in found}
        self.assertEqual(words, {None, "life", "lost", "told", "honest", "again", "spared", "claim", "turn"})


if __name__ == "__main__":
    unittest.main()

"""Points 801 and 802, and the heading swarmwhole/logs.py of the interface."""

import unittest

from swarmwhole.errors import BadRow
from swarmwhole.logs import Log
from tests.helpers import ANY_VALUES, Unchanged

ROWS = (
    (0, 1, "start", 2, (0, 3)), (0, 1, "had", 0, (1, 2), ((3, 4),)), (0, 1, "up", 2), (0, 1, "got", 2, ("wish",)),
    (0, 1, "got", 2, None), (0, 1, "told", 2), (0, 1, "turn", 3), (0, 1, "down", 2), (0, 1, "fall"),
)


def log_of(*rows):
    log = Log()
    for row in rows:
        log.add(row)
    return log


class Logs(unittest.TestCase):
    def refused(self, log, *values):
        before = log.rows()
        for value in values:
            with self.subTest(value), Unchanged(self, value):
                self.assertRaises(BadRow, log.add, value)
                self.assertEqual(log.rows(), before)

    def test_802_empty(self):
        self.assertEqual(Log().rows(), [])

    def test_802_each_row_of_the_table(self):
        for row in ROWS:
            log = Log()
            with Unchanged(self, row):
                self.assertIsNone(log.add(row))
            self.assertEqual(log.rows(), [row])
        self.assertEqual(log_of(*ROWS).rows(), list(ROWS))

    def test_802_an_item_more_or_less(self):
        for row in ROWS:
            self.refused(log_of((0, 0, "fall")), row[:-1], row + (0,), row + (None,), list(row), row[1:])

    def test_802_ticks(self):
        log = log_of((0, 1, "fall"), (0, 1, "fall"), (3, 0, "up", 1), (3, 0, "fall"))
        self.refused(log, (2, 0, "fall"), (0, 0, "fall"), (2, 5, "up", 1))
        log.add((3, 0, "fall"))
        log.add((10 ** 12, 0, "fall"))
        self.refused(log, (10 ** 12 - 1, 0, "fall"))
        self.assertEqual(len(log.rows()), 6)

    def test_802_a_row_that_is_refused_does_not_count(self):
        log = log_of((1, 0, "fall"))
        self.refused(log, (9, 0, "rise"), (9, 0, "fall", 1))
        log.add((1, 0, "fall"))

    def test_802_ticks_and_peers_are_integers_from_0_on(self):
        for wrong in (-1, True, False, None, 1.0, "1", (1,), [1]):
            self.refused(Log(), (wrong, 1, "fall"), (1, wrong, "fall"))
        log_of((0, 0, "fall"))

    def test_802_other_kinds_and_values(self):
        self.refused(Log(), *ANY_VALUES, (0, 0, "rise"), (0, 0, "Fall"), (0, 0, ""), (0, 0, None), (0, 0, 3),
                     (0, 0, ("fall",)),
                     (0, 0, ["fall"]), (0, 0, {}), (0, 0), (0,), [0, 0, "fall"], "fall", (0, 0, "had"),
                     (0, 0, "hads", 1, (), ()))

    def test_802_what_is_behind_the_peer_is_not_checked(self):
        for value in ANY_VALUES:
            rows = [(0, 1, "start", value, value), (0, 1, "up", value), (0, 1, "down", value),
                    (0, 1, "got", value, value),
                    (0, 1, "had", value, value, value), (0, 1, "told", value), (0, 1, "turn", value)]
            self.assertEqual(repr(log_of(*rows).rows()), repr(rows))

    def test_802_rows_gives_a_new_list(self):
        log = log_of(ROWS[0])
        found = log.rows()
        self.assertIsInstance(found, list)
        found.append(5)
        self.assertEqual(log.rows(), [ROWS[0]])
        log.add(ROWS[1])
        self.assertEqual(len(found), 2)
        self.assertEqual(log.rows(), list(ROWS[:2]))

    def test_two_logs(self):
        one, other = log_of((5, 0, "fall")), Log()
        other.add((0, 0, "fall"))
        self.assertEqual((one.rows(), other.rows()), ([(5, 0, "fall")], [(0, 0, "fall")]))


if __name__ == "__main__":
    unittest.main()

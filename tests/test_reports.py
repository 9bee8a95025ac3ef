"""Points 904 to 906, and point 2, promises 1 to 4, as far as point 905 speaks of them."""

import random
import unittest
from unittest import mock

from swarmwhole.content import cut, describe, whole_files
from swarmwhole.descriptions import identity
from swarmwhole.errors import BadCase
from swarmwhole.frames import frame
from swarmwhole.judges import collisions, forgers, judge, lacking
from swarmwhole.reports import report, report_text
from swarmwhole.swarm import Swarm
from tests.casework import ALL, FILES, WORLD, case
from tests.drawn import Liar, collision, draw_events, draw_world
from tests.helpers import ANY_VALUES, Unchanged, octets, told
from tests.samples import NAME, SHA, Sample, files_of

WHOLE = tuple(held for _, held in FILES)
ITEMS = ("identity", "ticks", "had", "files", "forgers", "faults", "lacking", "collisions")


def described(given):
    """The description and the pieces of a case."""
    description = describe(*given[:4])
    return description, cut(description, tuple(held for _, held in given[3]))


def played(given):
    """The swarm of a case behind all its ticks."""
    swarm = Swarm(*described(given), given[4])
    swarm.run(given[5])
    swarm.quiet(given[6])
    return swarm


def as_told(given):
    """The report as point 904 tells of it, from the parts."""
    description, pieces = described(given)
    swarm = played(given)
    rows = swarm.log.rows()
    honest = tuple(number for number, _ in given[4][0])
    files = []
    for number in honest:
        had = {}
        for row in rows:
            if row[1:3] == (number, "had"):
                had[row[3]] = row[4]
        files.append((number, whole_files(description, had)))
    last = rows[-1][0] if rows else -1
    return (
        identity(description), len(given[5]) + given[6], tuple((number, swarm.had(number)) for number in honest),
        tuple(files), forgers(rows),
        tuple(judge(description, pieces, honest, rows, 5 * (len(honest) + len(given[4][1])))),
        lacking(description, honest, rows, last), len(collisions(description, pieces, rows)),
    )


class ReportCase(unittest.TestCase):
    def report(self, given, **due):
        """The report, which is as the parts say, with these items."""
        with Unchanged(self, given):
            found = report(given)
        self.assertEqual(repr(found), repr(as_told(given)))
        items = dict(zip(ITEMS, found))
        self.assertEqual(items["faults"], ())
        self.assertEqual({name: items[name] for name in due}, due)
        with Unchanged(self, found):
            report_text(found)
        return found


class Reports(ReportCase):
    def test_904_all_get_everything(self):
        found = self.report(
            case(schedule=(), quiet=60), ticks=60, had=((1, ALL), (2, ALL), (4, ALL)),
            files=((1, WHOLE), (2, WHOLE), (4, WHOLE)), forgers=(), faults=(), lacking=0, collisions=0)
        self.assertEqual(found[0], identity(describe(*case()[:4])))
        self.assertEqual(len(found), 8)

    def test_904_no_tick_at_all(self):
        self.report(case(schedule=(), quiet=0), ticks=0, had=((1, ALL), (2, (0, 3)), (4, ())),
                    files=((1, WHOLE), (2, (None, (), None)), (4, (None, (), None))), lacking=8)

    def test_904_the_ticks_of_the_schedule_come_ahead_of_the_quiet_ones(self):
        join = (("join", 1, 2),)
        # The schedule alone delivers nothing.
        self.report(case(schedule=(join,) * 50, quiet=0), ticks=50, lacking=8)
        found = self.report(case(schedule=(join,) * 2, quiet=9), ticks=11)
        rows = played(case(schedule=(join,) * 2, quiet=9)).log.rows()
        self.assertEqual([row for row in rows if row[2] == "got"][0][0], 2)
        self.assertGreater(len(dict(found[2])[2]), 2)
        # What has fallen in the schedule runs again in the first quiet tick.
        self.report(case(schedule=((("fall", 1, ()),),), quiet=1), had=((1, ALL), (2, (0, 3)), (4, ())))

    def test_904_a_peer_that_does_not_run_at_the_end(self):
        self.report(case(schedule=((), (("fall", 1, ()), ("fall", 4, ()))), quiet=0), ticks=2,
                    had=((1, None), (2, (0, 3)), (4, None)),
                    files=((1, WHOLE), (2, (None, (), None)), (4, (None, (), None))), lacking=8)

    def test_904_an_armed_disk_that_falls(self):
        """The piece is two writes and a sync: the disk falls at one of these operations, or behind them."""
        both = (("flow", 1, 4, None), ("flow", 4, 1, None))
        for count, had in ((0, None), (1, None), (2, None), (3, (0,))):
            schedule = ((("join", 1, 4),), both, both, both, both, (("arm", 4, count, (2, 3)), ("flow", 1, 4, None)))
            with self.subTest(count):
                found = self.report(case(schedule=schedule, quiet=0), ticks=6)
                self.assertEqual(dict(found[2])[4], had)
                self.report(case(schedule=schedule, quiet=60), had=((1, ALL), (2, ALL), (4, ALL)), lacking=0)

    def test_904_forgers_that_are_told(self):
        zeros = (0, 0, 0, 0)
        schedule = ((("join", 2, 3), ("forge", 3, 2, zeros), ("flow", 3, 2, None)),)
        self.report(case(schedule=schedule, quiet=60), forgers=(3,), lacking=0, collisions=0)
        both = (((1, ALL), (5, ())), (0, 3), ((0, 1), (1, 3), (1, 5)))
        schedule = ((("join", 1, 3), ("join", 0, 1), ("forge", 3, 1, zeros), ("forge", 0, 1, zeros)),
                    (("flow", 3, 1, None),), (("flow", 0, 1, None),))
        self.report(case(world=both, schedule=schedule, quiet=0), forgers=(0, 3))
        self.report(case(world=both, schedule=schedule[:2], quiet=0), forgers=(3,))

    def test_904_forgers_that_send_nothing_wrong(self):
        self.report(case(schedule=((("join", 2, 3), ("join", 3, 7)),), quiet=20), forgers=())

    def test_904_cuts(self):
        cuts = (("cut", 1, 2), ("join", 1, 2), ("flow", 1, 2, 3), ("flow", 2, 1, None))
        found = self.report(case(schedule=(cuts,) * 30, quiet=0), ticks=30)
        self.assertEqual(dict(found[2])[2], (0, 3))
        self.report(case(schedule=(cuts,) * 30, quiet=60), lacking=0)

    def collided(self, quiet=0):
        """A case in which 2 gets another piece with the same sum from a forger."""
        sample = Sample(9, 0, 10, kind=("sum", 1))
        forged = collision(sample.pieces[1])
        messages = (("hello", 1, identity(sample.description)), ("field", (True,) * 5),
                    ("piece", 1, forged, sample.proofs[1]))
        stream = sum((frame(sample.description, message) for message in messages), ())
        schedule = ((("join", 2, 3), ("forge", 3, 2, stream), ("flow", 3, 2, None)),)
        return case(kind=("sum", 1), schedule=schedule, quiet=quiet), forged

    def test_904_collisions_of_plain_sums_of_one_octet(self):
        given, forged = self.collided()
        self.report(given, collisions=1, forgers=(), had=((1, ALL), (2, (0, 1, 3)), (4, ())), lacking=7)
        given, forged = self.collided(60)
        found = self.report(given, forgers=(), lacking=0)
        self.assertGreaterEqual(found[7], 1)
        files = dict(found[3])
        self.assertEqual(files[1], WHOLE)
        self.assertEqual(files[2][0], WHOLE[0][:4] + forged + WHOLE[0][8:])
        self.assertEqual(files[2][1:], WHOLE[1:])

    def test_904_each_peer_counts_each_time_that_it_has_a_colliding_piece(self):
        given, _ = self.collided()
        again = given[5] + ((("fall", 2, ()), ("rise", 2)),)
        self.report(given[:5] + (again, 0), collisions=2)

    def test_904_worlds_without_peers(self):
        self.report(case(world=((), (), ()), schedule=((), ()), quiet=3), ticks=5, had=(), files=(), forgers=(),
                    lacking=0, collisions=0)
        self.report(case(world=((), (3, 7), ((3, 7),)), schedule=((("join", 3, 7), ("forge", 3, 7, (1,))),)),
                    had=(), files=(), forgers=(), lacking=0)

    def test_904_a_case_with_empty_files_only_around_one(self):
        files = files_of(0, 3, 0)
        world = (((0, (0,)), (9, ())), (), ((0, 9),))
        self.report(case(files=files, world=world, schedule=(), quiet=0),
                    files=((0, ((), files[1][1], ())), (9, ((), None, ()))), lacking=1)
        self.report(case(files=files, world=world, schedule=(), quiet=20),
                    files=((0, ((), files[1][1], ())), (9, ((), files[1][1], ()))), lacking=0)

    def test_904_with_sha(self):
        self.report(case(kind=SHA, size=8, schedule=(), quiet=30, world=(((1, (0, 1, 2)), (2, ())), (), ((1, 2),))),
                    had=((1, (0, 1, 2)), (2, (0, 1, 2))), lacking=0, collisions=0)

    def test_904_the_bound_of_the_turns(self):
        """Each of nine neighbours waits for those ahead of it, and none of them too long."""
        pairs = tuple((0, number) for number in range(1, 10))
        world = (((0, ALL), *[(number, ()) for number in range(1, 10)]), (), pairs)
        rows = played(case(world=world, schedule=(), quiet=60)).log.rows()
        self.assertNotEqual(judge(*described(case()), tuple(range(10)), rows, 20), [])
        self.report(case(world=world, schedule=(), quiet=60), faults=())

    def test_904_the_bound_is_that_of_all_peers(self):
        for world, count in ((WORLD, 5), (((), (3, 7), ()), 2), ((((4, ()),), (), ()), 1),
                             ((((4, ()),), (1, 5, 9), ()), 4)):
            with mock.patch("swarmwhole.reports.judge", return_value=[("life", 1, 2)]) as asked:
                self.assertEqual(report(case(world=world, schedule=(), quiet=1))[5], (("life", 1, 2),))
            self.assertEqual(asked.call_args.args[4], 5 * count)

    def test_904_what_is_lacking_in_the_last_tick(self):
        """Also if it is the only one, and if its only row says that a piece is had."""
        self.report(case(world=(((4, (2,)),), (), ()), schedule=(), quiet=0), lacking=4)
        self.report(case(world=(((4, ()),), (), ()), schedule=(), quiet=0), lacking=5)
        sample = Sample(9, 0, 10)
        world = (((1, ALL), (4, (0, 1, 2, 3))), (), ((1, 4),))
        for quiet in range(20):
            given = case(world=world, schedule=(), quiet=quiet)
            found = self.report(given)
            rows = played(given).log.rows()
            if found[6] == 0:
                self.assertEqual(rows[-1][1:], (4, "had", 4, sample.pieces[4], sample.proofs[4]))
                return
        raise AssertionError("the piece does not come")

    def test_904_what_is_no_case(self):
        for value in ANY_VALUES:
            self.assertEqual(told(report, value), (BadCase, "form"))
        for items, reason in (({"name": ()}, "content"), ({"world": ()}, "world"), ({"schedule": None}, "schedule"),
                              ({"quiet": 1001}, "quiet"), ({"quiet": None, "size": 3}, "content"),
                              ({"schedule": ((("cut", 2, 1),),)}, "schedule")):
            with Unchanged(self, case(**items)):
                self.assertEqual(told(report, case(**items)), (BadCase, reason))

    def test_905_drawn_cases_have_no_faults(self):
        collided = liars = lacked = fallen = 0
        for seed in range(60):
            chance = random.Random(seed)
            kind = ("sum", chance.choice((1, 1, 2, 8)))
            counts = ((40,), (9, 0, 10), (33,), (3,), (0, 5, 0))[seed % 5]
            sample = Sample(*counts, kind=kind)
            world = draw_world(chance, len(sample.pieces), seed % 4)
            liar = Liar(chance, sample)
            schedule = tuple(draw_events(chance, world, liar) for _ in range(40))
            given = (NAME, kind, 4, files_of(*counts), world, schedule, (0, 0, 5, 40)[seed % 4])
            found = self.report(given, ticks=40 + given[6])
            self.assertEqual(report(given), found)
            if found[7] == 0:
                self.true_files(given, found)
            collided += found[7]
            liars += len(found[4])
            lacked += found[6]
            fallen += [had for _, had in found[2]].count(None)
        self.assertGreater(min(collided, liars, lacked, fallen), 5)

    def true_files(self, given, found):
        for _, files in found[3]:
            for (_, due), held in zip(given[3], files):
                self.assertIn(held, (None, due))


class Texts(unittest.TestCase):
    def test_906_a_text_written_out(self):
        found = ((1, 255), 12, ((1, (0, 2)), (4, ()), (9, None)),
                 ((1, ((1, 2), (), None)), (4, (None, (), None)), (9, ((7,), (), (8, 9)))), (3, 5), (), 7, 2)
        due = ("{o10:collisionsn2;o6:faults[]"
               "o5:files[[n1;[o2:\x01\x02o0:{}]][n4;[{}o0:{}]][n9;[o1:\x07o0:o2:\x08\x09]]]"
               "o7:forgers[n3;n5;]o3:had[[n1;[n0;n2;]][n4;[]][n9;{}]]o8:identityo2:\x01\xffo7:lackingn7;o5:ticksn12;}")
        with Unchanged(self, found):
            self.assertEqual(report_text(found), octets(due))

    def test_906_faults(self):
        faults = (("unfit", 3, 1, 4), ("life", 3, 1), ("lost", 0, 12, 7), ("told", 5, 1, 2), ("claim", 9, 1, 2, 3),
                  ("turn", 5, 6, 7))
        due = ("o6:faults[[o5:unfitn3;n1;n4;][o4:lifen3;n1;][o4:lostn0;n12;n7;][o4:toldn5;n1;n2;]"
               "[o5:claimn9;n1;n2;n3;][o4:turnn5;n6;n7;]]o5:files")
        text = report_text(((), 0, (), (), (), faults, 0, 0))
        self.assertIn(due, "".join(map(chr, text)))

    def test_906_empty_parts(self):
        self.assertEqual(report_text(((), 0, (), (), (), (), 0, 0)), octets(
            "{o10:collisionsn0;o6:faults[]o5:files[]o7:forgers[]o3:had[]o8:identityo0:o7:lackingn0;o5:ticksn0;}"))

    def test_906_of_a_report(self):
        given = case(files=files_of(0, 3), kind=("sum", 1), world=(((1, (0,)), (2, ())), (), ()),
                     schedule=((("fall", 1, ()),),), quiet=0)
        top = "".join(map(chr, identity(describe(*given[:4]))))
        piece = "".join(map(chr, given[3][1][1]))
        self.assertEqual(report_text(report(given)), octets(
            "{o10:collisionsn0;o6:faults[]o5:files[[n1;[o0:o3:" + piece + "]][n2;[o0:{}]]]o7:forgers[]"
            "o3:had[[n1;{}][n2;[]]]o8:identityo1:" + top + "o7:lackingn1;o5:ticksn1;}"))

    def test_906_different_reports_have_different_texts(self):
        reports = [report(case(schedule=(), quiet=quiet)) for quiet in range(12)]
        self.assertEqual(len({report_text(found) for found in reports}), len(set(reports)))


if __name__ == "__main__":
    unittest.main()

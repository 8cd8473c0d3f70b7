"""[8.5]: rows of pasts, robots that come back from their disks, and THE FACTS OF THE EYE and OF THE ROBOT'S JOURNAL."""

import random
import unittest

from allbrought.disks import Disk, record
from allbrought.errors import (
    FloorError, NoDisk, NoEye, NoNumber, NoPast, NoRobot, NoRow, NotBegun, NotWellFormed, NotYet, OtherMatch,
)
from allbrought.floors import Floor
from allbrought.letters import read_letter
from allbrought.robots import Robot
from allbrought.savings import SavedRobot, past_row, read_past
from tests import slow, slow_journal, slow_rows
from tests.slow_robot import SlowRobot
from tests.test_robots import tell, told
from tests.things import BAD_FLOORS, GOOD_FLOORS, ONE, TWO, TWO_ROWS, no_rows, odd_things

METHODS = ["book", "plan", "past", "counts", "lacks", "cells", "done", "step", "may", "begin", "end", "load", "hear", "say"]
BEGIN = slow_journal.begin(TWO_ROWS, 5, 0)
NEW = ((), (0, 0), 0, False)
# pasts of robot 0 of TWO_ROWS, one behind another
PASTS = [
    NEW, (tuple(ONE), (0, 0), 0, False), (tuple(ONE), (0, 0), 0, True), (tuple(ONE), (1, 0), 1, False),
    (tuple(TWO), (1, 3), 1, True), (tuple(TWO), (2, 4), 2, False),
]


def blocks_of(pasts, begin=BEGIN):
    rows = [slow_journal.past_row(past) for past in pasts]
    return [begin] + [
        slow_journal.record(slow_journal.learnt(last, ahead, now)) for last, (ahead, now) in enumerate(zip(rows, rows[1:]))
    ]


def disk_of(blocks, synced=0):
    disk = Disk()
    for number, row in enumerate(blocks):
        disk.write(row)
        if number + 1 == synced:
            disk.sync()
    return disk


def raised(floor, match, number, disk, eye):
    try:
        SavedRobot(floor, match, number, disk, eye)
    except FloorError as error:
        return error.__class__
    return None


class PastRows(unittest.TestCase):
    def test_by_hand(self):
        self.assertEqual(past_row(TWO_ROWS, NEW), (0, 0, 0, 0, 0))
        past = (tuple(ONE) + (("out", 1),), (3, 300), 3, True)
        self.assertEqual(past_row(TWO_ROWS, past), (2, 1, 1, 0, 1, 2, 1, 3, 172, 2, 3, 1))
        self.assertEqual(read_past(TWO_ROWS, (0, 0, 0, 0, 0)), NEW)
        self.assertEqual(read_past(TWO_ROWS, (2, 1, 1, 0, 1, 2, 1, 3, 172, 2, 3, 1)), past)

    def random_past(self, chance, robots):
        numbers = [0, 1, 127, 128, 99999, 100000, 2 ** 32 - 1]

        def entry():
            if chance.random() < 0.5:
                return (chance.choice(("out", "in")), chance.choice(numbers))
            return ("orders", tuple((chance.choice(numbers), chance.choice(numbers)) for _ in range(chance.randint(1, 6))))

        entries = tuple(entry() for _ in range(chance.choice((0, 1, 2, 5, 130))))
        return entries, tuple(chance.choice(numbers) for _ in range(robots)), chance.choice(numbers), chance.random() < 0.5

    def test_read_back(self):
        # whatever a Robot can have is not asked here
        for seed in range(60):
            chance = random.Random(450 + seed)
            robots = chance.randint(1, 6)
            floor = Floor(("H" * robots,))
            past = self.random_past(chance, robots)
            row = past_row(floor, past)
            self.assertEqual(row, slow_journal.past_row(past))
            self.assertEqual(read_past(floor, row), past)
            self.assertIs(read_past(floor, row)[3], past[3])
            for at in range(0, len(row), 1 + len(row) // 30):
                self.assertIsNone(read_past(floor, row[:at]))
                spoilt = row[:at] + (chance.randrange(256),) + row[at + 1:]
                self.assertEqual(read_past(floor, spoilt), slow_journal.read_past(floor, spoilt))
            self.assertIsNone(read_past(floor, row + (0,)))

    def test_rows_of_none(self):
        for row in [
            (), (0,), (0, 0, 0), (0, 0, 0, 0), (0, 0, 0, 0, 2), (0, 0, 0, 0, 0, 0), (1, 0, 0, 0, 0), (1, 2, 0, 0, 0, 0),
            (0, 128, 0, 0, 0, 0), (0, 0, 0, 0, 255), (0, 0, 0) + slow_rows.whole(2 ** 32) + (0,), (255,) * 40,
            (0,) + slow_rows.whole(2 ** 32) + (0, 0, 0), (0, 0) + slow_rows.whole(2 ** 32) + (0, 0), (1, 4, 0, 0, 0, 0, 0),
            (1, 2) + slow_rows.whole(2 ** 32) + (0, 0, 0, 0), (1, 1, 7) + (0,) * 18, (1, 1, 0, 0, 0, 0, 0), (129, 0, 2, 0, 0, 0),
        ]:
            self.assertIsNone(read_past(TWO_ROWS, row), row)
        self.assertEqual(read_past(TWO_ROWS, (1, 2, 0, 0, 0, 0, 0)), ((("out", 0),), (0, 0), 0, False))

    def test_no_row(self):
        for thing in no_rows():
            with self.assertRaises(NoRow):
                read_past(TWO_ROWS, thing)

    def test_no_past(self):
        entries, counts = tuple(TWO), (3, 0)
        for past in odd_things() + [
            None, (), (entries, counts, 3), (entries, counts, 3, False, 0), [entries, counts, 3, False],
            (list(entries), counts, 3, False), (entries, list(counts), 3, False), (entries, counts, True, False),
            (entries, counts, 3, 0), (entries, counts, 3, 1), (entries, counts, 3, None), (entries, counts, -1, False),
            (entries, counts, 2 ** 32, False), (entries, (3,), 3, False), (entries, (3, 0, 0), 3, False), (entries, (), 3, False),
            (entries, (3, True), 3, False), (entries, (3, 2 ** 32), 3, False), (entries, (3, -1), 3, False),
            (entries, (3, None), 3, False), (entries, None, 3, False), (None, counts, 3, False), (entries, counts, "3", False),
            ((("out", 2 ** 32),), counts, 3, False), ((("out", True),), counts, 3, False), ((None,), counts, 3, False),
            ((("orders", ()),), counts, 3, False), ((["out", 0],), counts, 3, False), ((("order", 0, 1),), counts, 3, False),
            ((("orders", ((0, 1),) * 7),), counts, 3, False), ((("orders", ((0, -1),)),), counts, 3, False), (0, 0, 0, False),
        ]:
            with self.assertRaises(NoPast, msg=str(past)[:80]):
                past_row(TWO_ROWS, past)
        for past in [(entries, (0, 0), 3, False), ((("in", 99),), (2 ** 32 - 1, 0), 2 ** 32 - 1, True)]:
            self.assertEqual(past_row(TWO_ROWS, past), slow_journal.past_row(past))


class New(unittest.TestCase):
    def test_a_subclass_with_all_methods_of_its_own(self):
        self.assertEqual(SavedRobot.__bases__, (Robot,))
        for name in METHODS + ["store"]:
            self.assertIn(name, vars(SavedRobot))
        self.assertIsInstance(SavedRobot(TWO_ROWS, 5, 0, Disk(), None), Robot)

    def test_over_a_new_disk(self):
        for floor in GOOD_FLOORS:
            for number, home in enumerate(slow.cells_with(floor, "H")):
                for match, eye in [(0, None), (300, (home, None)), (2 ** 32 - 1, None)]:
                    disk = Disk()
                    robot = SavedRobot(floor, match, number, disk, eye)
                    self.assertEqual((disk.blocks(), disk.synced()), ([slow_journal.begin(floor, match, number)], 1))
                    self.assertEqual(told(robot), told(Robot(floor, match, number, None, None)))

    def test_over_its_own_disk(self):
        for many in range(len(PASTS)):
            past = PASTS[many]
            for synced in range(many + 2):
                blocks = blocks_of(PASTS[:many + 1])
                disk = disk_of(blocks, synced)
                model = SlowRobot(TWO_ROWS, 5, 0)
                model.entries = list(past[0])
                for side in (0, 1)[:1 + past[3]]:
                    done = past[2] + side
                    robot = SavedRobot(TWO_ROWS, 5, 0, disk, model.eye(done))
                    self.assertEqual(robot.past(), (past[0], (done,) + past[1][1:], done, False))
                    self.assertEqual((disk.blocks(), disk.synced()), (blocks, many + 1))
                if not past[3]:
                    self.assertEqual(SavedRobot(TWO_ROWS, 5, 0, disk, None).past(), past)

    def test_over_a_disk_that_begins_otherwise(self):
        right = blocks_of(PASTS)[1:]
        numbers = slow_rows.wholes(5, 6)
        for first in [
            (), (0,), BEGIN[:-1], BEGIN + (0,), BEGIN[1:], record((4,)), record(()), record((4, 5, 6)), record((4, 5, 6, 0, 0)),
            record((4, 5, 6, 128)), record((4, 5, 6, 128, 0)), record((0, 5, 6)), record((0,) + numbers), record((5,) + numbers + (0,)),
            record((0,) + BEGIN[2:]), right[0], record((4, 5, 6) + (255,) * 9 + (2,)), record(BEGIN), (255,) * 20,
        ]:
            for synced in range(3):
                disk = disk_of([first] + right, synced)
                self.assertIs(raised(TWO_ROWS, 5, 0, disk, (1, None)), NoEye)
                self.assertEqual((disk.blocks(), disk.synced()), ([first] + right, synced))
                robot = SavedRobot(TWO_ROWS, 5, 0, disk, (0, None))
                self.assertEqual((disk.blocks(), disk.synced(), robot.past()), ([BEGIN], 1, NEW))
                robot.hear(tell((0, 0), 0, ONE))
                self.assertEqual(robot.store(), True)
                self.assertEqual(slow_journal.led_to(TWO_ROWS, 0, disk.blocks()), (PASTS[1], 2))

    def test_over_another_begin(self):
        right = blocks_of(PASTS)[1:]
        for first in [
            slow_journal.begin(TWO_ROWS, 4, 0), slow_journal.begin(TWO_ROWS, 5, 1), record((4, 5, 6, 0)), record((4, 0, 0, 0)),
            slow_journal.begin(Floor(("H.S", "HS.")), 5, 0), record((4,) + slow_rows.wholes(2 ** 64 - 1, 2 ** 40, 2 ** 64 - 1)),
        ]:
            for synced in range(4):
                disk = disk_of([first] + right, synced)
                for eye in (None, 0, (0, None), (99, 99)):
                    self.assertIs(raised(TWO_ROWS, 5, 0, disk, eye), OtherMatch)
                self.assertEqual((disk.blocks(), disk.synced()), ([first] + right, synced))

    def test_errors_in_their_order(self):
        other = disk_of([slow_journal.begin(TWO_ROWS, 4, 0), (1,)], 1)
        mine = disk_of(blocks_of(PASTS[:3]) + [(7,)], 2)
        for floor, pair in BAD_FLOORS:
            for match, number, disk, eye in [(5, 0, Disk(), None), ("5", 9, None, 0), (5, 9, other, 0)]:
                with self.assertRaises(NotWellFormed) as held:
                    SavedRobot(floor, match, number, disk, eye)
                self.assertEqual((held.exception.who, held.exception.station), pair)
        for match in odd_things() + [2 ** 32, -1, True, "5"]:
            self.assertIs(raised(TWO_ROWS, match, 9, None, 0), NoNumber)
            self.assertIs(raised(TWO_ROWS, match, 0, Disk(), None), NoNumber)
        for number in odd_things() + [2, 6, -1, True, False, "0"]:
            self.assertIs(raised(TWO_ROWS, 5, number, None, 0), NoRobot)
            self.assertIs(raised(TWO_ROWS, 5, number, Disk(), None), NoRobot)
        for thing in odd_things() + [None, 0, [], [BEGIN], Robot(TWO_ROWS, 5, 0, None, None)]:
            self.assertIs(raised(TWO_ROWS, 5, 0, thing, 0), NoDisk)
            self.assertIs(raised(TWO_ROWS, 5, 0, thing, None), NoDisk)
        self.assertIs(raised(TWO_ROWS, 5, 0, other, 0), OtherMatch)
        kept = (mine.blocks(), mine.synced())
        for eye in odd_things() + [None, 0, (2, None), (0, 0), [0, None], (0, False), (1, 0), (0,), (True, None)]:
            if eye != (0, None):
                self.assertIs(raised(TWO_ROWS, 5, 0, mine, eye), NoEye)
                self.assertEqual((mine.blocks(), mine.synced()), kept)
        self.assertEqual((other.blocks(), other.synced()), ([slow_journal.begin(TWO_ROWS, 4, 0), (1,)], 1))
        self.assertIs(raised(TWO_ROWS, 5, 0, mine, (1, None)), None)
        self.assertEqual((mine.blocks(), mine.synced()), (kept[0][:-1], 3))

    def test_an_eye_that_is_none_over_a_disk_to_be_begun(self):
        for blocks, synced in [([], 0), ([(7,)], 0), ([(7,), (8,)], 1)]:
            disk = disk_of(blocks, synced)
            self.assertIs(raised(TWO_ROWS, 5, 0, disk, (1, None)), NoEye)
            self.assertEqual((disk.blocks(), disk.synced()), (blocks, synced))

    def test_robots_are_equal_to_nothing_else(self):
        robot = SavedRobot(TWO_ROWS, 5, 0, Disk(), None)
        for thing in odd_things() + [Robot(TWO_ROWS, 5, 0, None, None), SavedRobot(TWO_ROWS, 5, 0, Disk(), None)]:
            self.assertIs(robot == thing, False)
            self.assertIs(thing == robot, False)


class Mending(unittest.TestCase):
    """What stands behind the right learnt rows is dropped."""

    def mended(self, blocks, past, many):
        for synced in (0, 1, len(blocks)):
            disk = disk_of(blocks, synced)
            model = SlowRobot(TWO_ROWS, 5, 0)
            model.entries = list(past[0])
            robot = SavedRobot(TWO_ROWS, 5, 0, disk, model.eye(past[2]))
            self.assertEqual(robot.past(), past[:3] + (False,))
            self.assertEqual((disk.blocks(), disk.synced()), (blocks[:many], many))
            self.assertEqual(slow_journal.led_to(TWO_ROWS, 0, blocks), (past, many))
            # and it goes on behind them
            robot.hear(tell((0, 77), 0, []))
            self.assertTrue(robot.store())
            self.assertEqual(slow_journal.led_to(TWO_ROWS, 0, disk.blocks()), (robot.past(), many + 1))

    def test_blocks_that_are_none(self):
        right = blocks_of(PASTS)
        row = slow_journal.past_row(PASTS[1])
        for at in range(1, len(right) + 1):
            last = at - 1
            now = slow_journal.past_row(PASTS[at - 1])
            for bad in [
                (), (0,), (right + right[-1:])[at][:-1], right[1] + (0,), BEGIN, (255,) * 9, record(()), record((5,)),
                record((5, 128)), record((5, 128, 0)), record((5, last)[:1] + (last + 1,)), record((5, last, 0)),
                record((5, last, 3 * 60)), record((5, last, 1)), record((5, last, 2)), record((5, last, 5)), record((5, last)),
                record((5, last) + slow_rows.whole(3 * len(now)) + slow_rows.whole(5) + (0,)), record((4, last)),
                record((6, last) + slow_rows.whole(3 * len(now))), record(slow_journal.learnt(at, now, row)),
                record(slow_journal.learnt(at + 1, now, row)), record(slow_journal.learnt(last, now, row[:-1])),
                record(slow_journal.learnt(last, now, row + (0,))), record(slow_journal.learnt(last, now, row[:-1] + (2,))),
            ] + [record(slow_journal.learnt(other, now, row)) for other in range(at) if other != last]:
                self.mended(right[:at] + [bad] + right[at:], PASTS[at - 1], at)

    def test_pasts_that_no_robot_can_have(self):
        right = blocks_of(PASTS)
        now = slow_journal.past_row(PASTS[-1])
        for past in [
            (tuple(TWO), (2, 4), 1, False), (tuple(TWO), (1, 4), 2, False), (tuple(TWO), (9, 0), 9, False),
            (tuple(TWO), (8, 0), 8, True), ((("in", 0),), (0, 0), 0, False), (tuple(TWO) + (("out", 2),), (0, 0), 0, False),
            ((), (1, 0), 1, False), ((), (0, 0), 0, True), ((("orders", ((0, 2),)),), (0, 0), 0, False),
            ((("out", 0), ("in", 0)) * 200 + (("out", 0),), (0, 0), 0, False), ((("orders", ((0, 1),) * 6),) * 17, (0, 0), 0, False),
        ]:
            bad = record(slow_journal.learnt(5, now, slow_journal.past_row(past)))
            self.mended(right + [bad] + right[2:], PASTS[-1], 6)
        # changes that lead to many bytes, and to more than a row has
        for many in (299960, 299990):
            huge = record((5, 5) + slow_rows.whole(3 * many + 2) + (0,) * many + slow_rows.whole(3 * len(now)))
            self.assertEqual((len(huge) <= 300000, many + len(now) > 300000), (True, many == 299990))
            self.mended(right + [huge, right[1]], PASTS[-1], 6)

    def test_pasts_that_a_robot_can_have_need_not_grow(self):
        row = [slow_journal.past_row(past) for past in PASTS]
        other = (tuple(TWO[1:]), (0, 9), 0, False)
        blocks = blocks_of(PASTS) + [
            record(slow_journal.learnt(5, row[5], row[3])), record(slow_journal.learnt(6, row[3], slow_journal.past_row(other))),
            record(slow_journal.learnt(7, slow_journal.past_row(other), row[0])), record((5, 8)), record((5, 8, 15)), record((5, 9, 15)),
        ]
        # the row of parts () leaves out all that is left; 15 keeps the five bytes of a new robot's row
        self.mended(blocks[:8], other, 8)
        self.mended(blocks, NEW, 9)
        self.mended(blocks[:9] + blocks[10:11] + blocks[10:], NEW, 10)
        self.mended(blocks[:9] + blocks[10:], NEW, 11)


class Doing(unittest.TestCase):
    def robot(self):
        disk = Disk()
        robot = SavedRobot(TWO_ROWS, 5, 0, disk, None)
        robot.hear(tell((0, 0), 0, TWO))
        return robot, disk

    def last(self, disk):
        """The past that the disk tells, how many blocks there are, and how many of them do not wait."""
        past, many = slow_journal.led_to(TWO_ROWS, 0, disk.blocks())
        self.assertEqual(many, len(disk.blocks()))
        return past, many, disk.synced()

    def test_begin_and_end(self):
        robot, disk = self.robot()
        self.assertEqual(self.last(disk), (NEW, 1, 1))
        with self.assertRaises(NotBegun):
            robot.end()
        self.assertEqual(self.last(disk), (NEW, 1, 1))
        self.assertIsNone(robot.begin())
        self.assertEqual(self.last(disk), ((tuple(TWO), (0, 0), 0, True), 2, 2))
        self.assertEqual(robot.past(), (tuple(TWO), (0, 0), 0, True))
        with self.assertRaises(NotYet):
            robot.begin()
        self.assertEqual(len(disk.blocks()), 2)
        self.assertIsNone(robot.end())
        self.assertEqual(self.last(disk), ((tuple(TWO), (1, 0), 1, False), 3, 2))
        with self.assertRaises(NotBegun):
            robot.end()
        self.assertIsNone(robot.begin())
        self.assertEqual(self.last(disk), ((tuple(TWO), (1, 0), 1, True), 4, 4))
        self.assertEqual(robot.hear(tell((0, 3), 0, [])), "new")
        self.assertEqual(len(disk.blocks()), 4)
        self.assertIsNone(robot.end())
        self.assertEqual(self.last(disk), ((tuple(TWO), (2, 3), 2, False), 5, 4))

    def test_not_yet(self):
        disk = Disk()
        robot = SavedRobot(TWO_ROWS, 5, 0, disk, None)
        disk.write((7,))
        with self.assertRaises(NotYet):
            robot.begin()
        with self.assertRaises(NotBegun):
            robot.end()
        self.assertEqual((disk.blocks(), disk.synced()), ([BEGIN, (7,)], 1))

    def test_say_and_store(self):
        robot, disk = self.robot()
        letter = robot.say()
        self.assertEqual(self.last(disk), ((tuple(TWO), (0, 0), 0, False), 2, 2))
        self.assertEqual(letter, slow_rows.letter(5, ("say", 0, 2, 0, (0, 0))))
        self.assertEqual((robot.store(), robot.say(), robot.store()), (False, letter, False))
        self.assertEqual(len(disk.blocks()), 2)
        robot.hear(tell((0, 4), 2, [("out", 0)]))
        self.assertIs(robot.store(), True)
        self.assertEqual(self.last(disk), ((tuple(TWO) + (("out", 0),), (0, 4), 0, False), 3, 3))
        robot.hear(tell((0, 4), 2, [("out", 0)]))
        self.assertIs(robot.store(), False)
        robot.begin()
        self.assertIs(robot.store(), False)
        robot.end()
        # what it did waits until it says so
        self.assertEqual(self.last(disk)[1:], (5, 4))
        self.assertIs(robot.store(), False)
        self.assertEqual(self.last(disk)[1:], (5, 5))
        robot.begin()
        robot.end()
        robot.say()
        self.assertEqual(self.last(disk)[1:], (7, 7))

    def test_synced_in_every_case(self):
        robot, disk = self.robot()
        robot.store()
        for word in ("store", "say"):
            disk.write((7,))
            getattr(robot, word)()
            self.assertEqual(disk.synced(), len(disk.blocks()))

    def test_what_the_eye_settled_is_told_next(self):
        for side in (0, 1):
            for word in ("store", "say", "begin"):
                robot, disk = self.robot()
                robot.begin()
                robot = SavedRobot(TWO_ROWS, 5, 0, disk, (side, None))
                self.assertEqual((self.last(disk), robot.past()), (
                    ((tuple(TWO), (0, 0), 0, True), 2, 2), (tuple(TWO), (side, 0), side, False)
                ))
                getattr(robot, word)()
                self.assertEqual(self.last(disk), ((tuple(TWO), (side, 0), side, word == "begin"), 3, 3))
                self.assertEqual(robot.past(), (tuple(TWO), (side, 0), side, word == "begin"))

    def test_changes_are_small(self):
        robot, disk = self.robot()
        for _ in range(3):
            robot.begin()
            robot.end()
        # of a row of more than a dozen bytes just those are written that are unlike
        self.assertGreater(len(past_row(TWO_ROWS, robot.past())), 12)
        self.assertLessEqual(max(len(row) for row in disk.blocks()[2:]), 15)

    def test_methods_do_as_those_of_a_robot(self):
        for seed, floor in enumerate(GOOD_FLOORS[1:8] * 2):
            chance = random.Random(470 + seed)
            number = chance.randrange(len(slow.cells_with(floor, "H")))
            disk = Disk()
            saved, plain = SavedRobot(floor, 5, number, disk, None), Robot(floor, 5, number, None, None)
            entries = slow.random_entries(chance, floor, 6)
            for _ in range(60):
                word = chance.choice(("hear", "begin", "begin", "end", "end", "say"))
                first, counts = chance.randint(0, 6), [chance.randint(0, 20) for _ in plain.counts()]
                passed = [tell(counts, first, entries[first:first + 3])] if word == "hear" else []
                answers = []
                for robot in (saved, plain):
                    try:
                        answers.append(getattr(robot, word)(*passed))
                    except (NotYet, NotBegun) as error:
                        answers.append(error.__class__)
                self.assertEqual(answers[0], answers[1])
                self.assertEqual(told(saved), told(plain))


class TheFact(unittest.TestCase):
    """A robot, its body and its disk, cut anywhere."""

    def run_cut(self, chance, floor):
        number = chance.randrange(len(slow.cells_with(floor, "H")))
        disk = Disk()
        robot, model = SavedRobot(floor, 5, number, disk, None), SlowRobot(floor, 5, number)
        book = slow.random_entries(chance, floor, 6)
        seen, heard_said = set(), 0
        for _ in range(120):
            word = chance.choice(("hear", "go", "go", "go", "go", "say", "store", "cut"))
            seen.add(word)
            if word == "hear":
                first = chance.randint(0, len(book))
                letter = tell([99 * chance.randint(0, 1) for _ in robot.counts()], first, book[first:first + 2])
                robot.hear(letter)
            elif word == "say":
                heard_said = read_letter(floor, 5, robot.say())[2]
            elif word == "store":
                robot.store()
                heard_said = len(robot.past()[0])
            elif word == "go" and robot.past()[3]:
                model.entries = list(robot.past()[0])
                model.end()
                robot.end()
            elif word == "go" and robot.may():
                robot.begin()
            elif word == "cut":
                robot = self.made_anew(chance, disk, robot, model, seen)
                self.assertGreaterEqual(len(robot.past()[0]), heard_said)
            heard = robot.past()[0]
            self.assertEqual((robot.done(), heard), (model.done, tuple(book[:len(heard)])))
            self.assertIn(model.eye()[0], robot.cells())
        return seen

    def made_anew(self, chance, disk, robot, model, seen):
        past = robot.past()
        model.entries = list(past[0])
        if past[3] and chance.random() < 0.5:
            # the body did the step that was begun, but nobody told so
            model.end()
            seen.add("behind")
        elif past[3]:
            seen.add("ahead")
        waiting = disk.blocks()[disk.synced():]
        kept = tuple(chance.choice((0, len(row), chance.randint(0, len(row)))) for row in waiting)
        seen.update("cut short" for many, row in zip(kept, waiting) if many < len(row))
        seen.update("whole" for many, row in zip(kept, waiting) if many == len(row))
        disk.cut(kept)
        eye = model.eye()
        robot = SavedRobot(model.floor, 5, model.number, disk, eye)
        self.assertEqual((robot.done(), robot.past()[3]), (model.done, False))
        self.assertEqual((robot.cells(), robot.load()), ((eye[0],), eye[1]))
        return robot

    def test_cut_anywhere(self):
        seen = set()
        for seed, floor in enumerate(GOOD_FLOORS[1:8] * 3):
            seen |= self.run_cut(random.Random(500 + seed), floor)
        self.assertEqual(seen, {"hear", "go", "say", "store", "cut", "ahead", "behind", "cut short", "whole"})

    def test_each_step_changes_what_the_eye_tells(self):
        for seed, floor in enumerate(GOOD_FLOORS[:8]):
            for number in range(len(slow.cells_with(floor, "H"))):
                model = SlowRobot(floor, 5, number)
                model.entries = slow.random_entries(random.Random(530 + seed), floor, 4) if seed else list(ONE[:0])
                for done in range(len(model.row())):
                    self.assertNotEqual(model.eye(done), model.eye(done + 1))


if __name__ == "__main__":
    unittest.main()

"""[8.1], [8.2], [8.3]: disks, records, THE FACT OF RECORDS, kept entries, THE FACT OF KEPT ENTRIES."""

import random
import unittest

from allbrought.books import book_of
from allbrought.disks import Disk, kept_entries, read_record, record
from allbrought.errors import NoBlocks, NoCut, NoNumber, NoRow, NotWellFormed
from tests import slow, slow_rows
from tests.things import BAD_FLOORS, GOOD_FLOORS, ONE, TWO, TWO_ROWS, no_rows, odd_things

NUMBERS_NOT = [thing for thing in odd_things() if not slow.is_number(thing)] + [True, False, None, "0", (0,), -1]


def told(disk):
    return (disk.blocks(), disk.synced())


def disk_of(kept, waiting):
    disk = Disk()
    for row in kept:
        disk.write(row)
    disk.sync()
    for row in waiting:
        disk.write(row)
    return disk


class Disks(unittest.TestCase):
    def test_new(self):
        self.assertEqual((told(Disk()), Disk().sync()), (([], 0), 0))

    def test_write_and_sync(self):
        disk = Disk()
        rows = [(1, 2), (), (255,), (0,) * 300000]
        for number, row in enumerate(rows):
            self.assertEqual(disk.write(row), number)
            self.assertEqual(told(disk), (rows[:number + 1], 0))
        self.assertEqual([disk.sync(), disk.synced(), disk.sync(), disk.synced()], [4, 4, 0, 4])
        self.assertEqual(disk.write((9,)), 4)
        self.assertEqual(told(disk), (rows + [(9,)], 4))
        self.assertEqual([disk.sync(), disk.synced()], [1, 5])

    def test_no_row(self):
        disk = disk_of([(1,)], [(2, 3)])
        for thing in no_rows():
            with self.assertRaises(NoRow):
                disk.write(thing)
        self.assertEqual(told(disk), ([(1,), (2, 3)], 1))

    def test_cut(self):
        waiting = [(1, 2, 3), (), (4, 5)]
        for first in range(4):
            for last in range(3):
                disk = disk_of([(7, 7)], waiting)
                self.assertIsNone(disk.cut((first, 0, last)))
                self.assertEqual(told(disk), ([(7, 7), (1, 2, 3)[:first], (), (4, 5)[:last]], 4))
                self.assertEqual(disk.sync(), 0)
                self.assertIsNone(disk.cut(()))
                self.assertEqual(disk.synced(), 4)
        disk = disk_of([(7,)], [])
        disk.cut(())
        self.assertEqual(told(disk), ([(7,)], 1))
        disk = disk_of([], [(1, 2)])
        disk.cut((1,))
        self.assertEqual(told(disk), ([(1,)], 1))

    def test_no_cut(self):
        disk = disk_of([(7, 7)], [(1, 2, 3), (), (4, 5)])
        for thing in odd_things() + [
            (), (0,), (0, 0), (0, 0, 0, 0), (4, 0, 0), (0, 1, 0), (0, 0, 3), (3, 0, -1), (True, 0, 0), (0, False, 0),
            (0, 0, True), [0, 0, 0], (0, None, 0), ("0", 0, 0), ((0,), 0, 0), (0, 0, (0, 0)), 0, None, "000", (10 ** 19, 0, 0),
        ]:
            with self.assertRaises(NoCut):
                disk.cut(thing)
        self.assertEqual(told(disk), ([(7, 7), (1, 2, 3), (), (4, 5)], 1))
        for thing in odd_things() + [(0,), [], None, 0, False, ((),)]:
            if thing != () or not isinstance(thing, tuple):
                with self.assertRaises(NoCut):
                    disk_of([(7, 7)], []).cut(thing)

    def test_drop(self):
        rows = [(1,), (2,), (3,), (4,), (5,)]
        for number in range(6):
            disk = disk_of(rows[:3], rows[3:])
            self.assertIsNone(disk.drop(number))
            self.assertEqual(told(disk), (rows[:number], min(number, 3)))
            self.assertEqual(disk.write((9,)), number)
            self.assertEqual(disk.sync(), number + 1 - min(number, 3))
            self.assertEqual(told(disk), (rows[:number] + [(9,)], number + 1))

    def test_drop_asks_for_a_number(self):
        disk = disk_of([(1,)], [(2,)])
        for thing in NUMBERS_NOT + [3, 4, 10 ** 19]:
            with self.assertRaises(NoNumber):
                disk.drop(thing)
            with self.assertRaises(NoNumber):
                Disk().drop(thing)
        self.assertEqual(told(disk), ([(1,), (2,)], 1))
        Disk().drop(0)

    def test_copy(self):
        disk = disk_of([(1,)], [(2, 3)])
        other = disk.copy()
        self.assertIsInstance(other, Disk)
        self.assertEqual(told(other), told(disk))
        disk.write((9,))
        self.assertEqual(told(other), ([(1,), (2, 3)], 1))
        disk.cut((1, 0))
        disk.drop(2)
        disk.write((8,))
        self.assertEqual((told(disk), told(other)), (([(1,), (2,), (8,)], 2), ([(1,), (2, 3)], 1)))
        other.drop(0)
        other.write((6,))
        self.assertEqual((told(disk), told(other)), (([(1,), (2,), (8,)], 2), ([(6,)], 0)))

    def test_lists_are_new(self):
        disk = disk_of([(1,)], [(2, 3)])
        disk.blocks().clear()
        self.assertEqual(disk.blocks(), [(1,), (2, 3)])

    def test_disks_are_equal_to_nothing_else(self):
        disk = Disk()
        for thing in odd_things() + [Disk(), []]:
            self.assertIs(disk == thing, False)

    def test_methods_behind_one_another(self):
        for seed in range(40):
            chance = random.Random(400 + seed)
            disk, model = Disk(), []
            for _ in range(60):
                self.one_more(chance, disk, model)
                self.assertEqual(told(disk), ([row for row, _ in model], len([1 for _, waits in model if not waits])))

    def one_more(self, chance, disk, model):
        """The model is a list of pairs [row, whether it waits]."""
        word = chance.choice(("write", "write", "write", "sync", "cut", "drop"))
        if word == "write":
            row = tuple(chance.randrange(256) for _ in range(chance.randrange(5)))
            self.assertEqual(disk.write(row), len(model))
            model.append([row, True])
        elif word == "sync":
            self.assertEqual(disk.sync(), len([1 for _, waits in model if waits]))
        elif word == "drop":
            number = chance.randint(0, len(model))
            disk.drop(number)
            del model[number:]
        else:
            kept = tuple(chance.randint(0, len(row)) for row, waits in model if waits)
            disk.cut(kept)
            left = list(kept)
            for pair in model:
                if pair[1]:
                    pair[0] = pair[0][:left.pop(0)]
        if word in ("sync", "cut"):
            for pair in model:
                pair[1] = False


class Records(unittest.TestCase):
    def rows(self):
        chance = random.Random(410)
        return [(0,), (1,), (255,), (0, 0), (1, 7), (2, 7, 8)] + [
            tuple(chance.randrange(256) for _ in range(many))
            for many in (0, 1, 2, 5, 126, 127, 128, 129, 300, 16383, 16384, 16385)
        ]

    def test_by_hand(self):
        self.assertEqual(record((7, 8)), (2, 7, 8))
        self.assertEqual(record(()), (0,))
        self.assertEqual(record((9,) * 127), (127,) + (9,) * 127)
        self.assertEqual(record((9,) * 128), (128, 1) + (9,) * 128)
        self.assertEqual(read_record((0,)), ())
        self.assertEqual(read_record((2, 7, 8)), (7, 8))

    def test_read_back(self):
        for row in self.rows():
            self.assertEqual(record(row), slow_rows.whole(len(row)) + row)
            self.assertEqual(read_record(record(row)), row)
        longest = (5,) * 299997
        self.assertEqual(read_record(record(longest)), longest)
        self.assertEqual(len(record((0,) * 300000)), 300003)

    def test_no_true_beginning_is_one_and_nothing_behind(self):
        for row in self.rows():
            right = record(row)
            for at in range(0, len(right), 1 + len(right) // 60):
                self.assertIsNone(read_record(right[:at]))
            self.assertIsNone(read_record(right[:-1]))
            self.assertIsNone(read_record(right + (0,)))
            self.assertIsNone(read_record(right + right))

    def test_no_record(self):
        for row in [(), (1,), (128,), (128, 0), (129, 0, 5), (0, 0), (2, 1), (255,) * 9 + (1,), (255,) * 12, (3, 1, 2)]:
            self.assertIsNone(read_record(row))

    def test_no_row(self):
        for thing in no_rows():
            with self.assertRaises(NoRow):
                record(thing)
            with self.assertRaises(NoRow):
                read_record(thing)


class KeptEntries(unittest.TestCase):
    def block(self, entry):
        return record(slow_rows.entry(entry))

    def test_right_blocks(self):
        chance = random.Random(420)
        for floor in GOOD_FLOORS[1:8]:
            entries = slow.random_entries(chance, floor, 9)
            blocks = [self.block(entry) for entry in entries]
            for kind in (list, tuple):
                self.assertEqual(kept_entries(floor, kind(blocks)), entries)
                self.assertEqual(kept_entries(floor, kind()), [])
            self.assertEqual(book_of(floor, kept_entries(floor, blocks)).entries(), entries)

    def test_those_ahead_of_the_first_wrong_one(self):
        right = [self.block(entry) for entry in TWO + [("out", 0), ("out", 1), ("in", 0)]]
        kept = TWO + [("out", 0), ("out", 1), ("in", 0)]
        entry = right[0]
        for at in range(len(right) + 1):
            for bad in [
                (), (0,), entry[:-1], entry + (0,), entry[1:], (entry[0] + 1,) + entry[1:], (1, 1), (2, 2, 2), (2, 4, 0),
                record(entry[1:] + (0,)), record(entry[1:-1]), record(entry), record((0,)), record((1, 0)), record((1, 7) + (0,) * 14),
                self.block(("out", 2)), self.block(("orders", ((0, 2),))), self.block(("in", 2)), record((2, 128, 0)),
                self.block(("orders", ((2, 0), (0, 0)))), record(()), record((2, 0, 0)), (9,) * 200,
            ]:
                self.assertEqual(kept_entries(TWO_ROWS, right[:at] + [bad] + right[at:]), kept[:at], bad)

    def test_what_the_book_does_not_take_there(self):
        out, back = ("out", 0), ("in", 0)
        for entries, many in [
            ([out, out, back], 1), ([back], 0), ([out, ("out", 1), ONE[0], back], 2), ([out, back] * 201, 400),
            ([("orders", ((0, 1),) * 6)] * 17 + [out], 16), ([("orders", ((0, 1),) * 5)] * 20 + [out, ONE[0]], 21),
        ]:
            blocks = [self.block(entry) for entry in entries]
            self.assertEqual(kept_entries(TWO_ROWS, blocks), entries[:many])

    def test_not_well_formed_then_no_blocks(self):
        for floor, pair in BAD_FLOORS:
            for blocks in ([], [()], None, 0):
                with self.assertRaises(NotWellFormed) as held:
                    kept_entries(floor, blocks)
                self.assertEqual((held.exception.who, held.exception.station), pair)
        right = self.block(ONE[0])
        for thing in no_rows():
            with self.assertRaises(NoBlocks):
                kept_entries(TWO_ROWS, [right, thing])
            with self.assertRaises(NoBlocks):
                kept_entries(TWO_ROWS, (thing, right))
        for thing in odd_things() + ["", {}, b"", (0, 1), right]:
            # an empty one, and one of an empty row, are right
            if not isinstance(thing, (list, tuple)) or not all(map(slow_rows.is_row, thing)):
                with self.assertRaises(NoBlocks):
                    kept_entries(TWO_ROWS, thing)

    def test_lists_stay_and_are_new(self):
        blocks = [self.block(entry) for entry in TWO]
        found = kept_entries(TWO_ROWS, blocks)
        found.clear()
        self.assertEqual(blocks, [self.block(entry) for entry in TWO])
        self.assertEqual(kept_entries(TWO_ROWS, blocks), TWO)


if __name__ == "__main__":
    unittest.main()

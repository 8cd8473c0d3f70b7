"""[10.1]: texts of floors, books and plans, and THE FACT OF TEXTS."""

import random
import unittest

from allbrought.books import Book, book_of
from allbrought.errors import BadEntry, BadFloor, BadText, FloorError, NoPlan, NotWellFormed
from allbrought.floors import Floor
from allbrought.plans import plan_of
from allbrought.texts import book_text, floor_mark, floor_text, plan_text, read_book_text, read_floor, read_plan
from allbrought.tracks import Plan
from tests import slow, slow_rows
from tests.things import BAD_FLOORS, GOOD_FLOORS, ONE, TWO, TWO_ROWS, odd_things, sample_plans

TEXTS_NOT = [thing for thing in odd_things() if not isinstance(thing, str)] + [0, None, ["H\n"], (), b"H\n", TWO_ROWS]
PLAN_ONE = "robot 0 0 1 1 2 2 4 5 6 2 7 1 8 0\nrobot 0 3\njob 0 2 4 8\n"
PLAN_TWO = "robot 0 0 1 1 2 2 4 5 6 2 7 1 8 0\nrobot 0 3 6 4 7 5 10 4 11 3\njob 0 2 4 8\njob 1 7 8 11\n"


class Floors(unittest.TestCase):
    def test_by_hand(self):
        self.assertEqual(floor_text(TWO_ROWS), "H.S\nH.S\n")
        self.assertEqual(floor_text(Floor(("H",))), "H\n")
        self.assertEqual(read_floor("H.S\nH.S\n"), TWO_ROWS)

    def test_read_back_and_marks(self):
        marks = set()
        floors = GOOD_FLOORS + [floor for floor, _ in BAD_FLOORS]
        for floor in floors:
            text = floor_text(floor)
            self.assertEqual(text, "\n".join(floor.rows) + "\n")
            self.assertEqual(read_floor(text), floor)
            self.assertEqual(floor_mark(floor), slow_rows.mark(tuple(map(ord, text))))
            marks.add(floor_mark(floor))
        self.assertEqual(len(marks), len({floor.rows for floor in floors}))

    def test_bad_text(self):
        for thing in TEXTS_NOT:
            with self.assertRaises(BadText) as held:
                read_floor(thing)
            self.assertEqual(held.exception.line, 0)
        for text, line in [
            ("H", 1), ("H.S", 1), ("H.S\nH.S", 2), ("H\n\nx", 3), ("?", 1), ("\nH", 2), ("H\n ", 2), ("H\n" * 12 + "H", 13),
            ("\n" * 20 + ".", 21), (" ", 1),
        ]:
            with self.assertRaises(BadText) as held:
                read_floor(text)
            self.assertEqual(held.exception.line, line)

    def test_bad_floor(self):
        for text, part in [
            ("", -1), ("\n", 0), ("H\n" * 13, -1), ("H\nx\n", 1), ("H\n\n", 1), ("H\nHH\n", 1), (".\n", "homes"), ("h\n", 0),
            ("H" * 13 + "\n", 0), ("HHHHHHH\n", "homes"), ("H.\nH\n", 1), ("H|H\n", 0), (" H\n", 0), ("H \n", 0),
        ]:
            with self.assertRaises(BadFloor) as held:
                read_floor(text)
            self.assertEqual(held.exception.part, part)


class Books(unittest.TestCase):
    def test_by_hand(self):
        entries = TWO + [("out", 1), ("orders", ((1, 0), (0, 0), (1, 1))), ("in", 1)]
        text = "order 0 1\norder 1 1\nout 1\norder 1 0 0 0 1 1\nin 1\n"
        self.assertEqual(book_text(book_of(TWO_ROWS, entries)), text)
        self.assertEqual(read_book_text(TWO_ROWS, text).entries(), entries)
        self.assertEqual(book_text(Book(TWO_ROWS)), "")
        self.assertEqual(read_book_text(TWO_ROWS, "").entries(), [])
        self.assertIsInstance(read_book_text(TWO_ROWS, ""), Book)

    def test_read_back(self):
        for seed, floor in enumerate(GOOD_FLOORS[1:] * 3):
            chance = random.Random(540 + seed)
            entries = slow.random_entries(chance, floor, chance.randint(1, 12))
            text = book_text(book_of(floor, entries))
            lines = []
            for word, what in entries:
                numbers = [number for pair in what for number in pair] if word == "orders" else [what]
                lines.append(" ".join(["order" if word == "orders" else word] + list(map(str, numbers))))
            self.assertEqual(text, "".join(line + "\n" for line in lines))
            self.assertEqual(read_book_text(floor, text).entries(), entries)
        most = [("orders", ((0, 1),) * 6)] + [("out", 0), ("in", 0)] * 199 + [("out", 1)]
        self.assertEqual(read_book_text(TWO_ROWS, book_text(book_of(TWO_ROWS, most))).entries(), most)

    def bad_line(self, text):
        with self.assertRaises(BadText) as held:
            read_book_text(TWO_ROWS, text)
        return held.exception.line

    def test_lines_of_no_form(self):
        right = ["order 0 1", "out 0", "in 0", "order 1 1 0 0 1 0 0 1 1 1 0 0"]
        for bad in [
            "", " ", "order", "order ", "order 0", "order 0 1 ", " order 0 1", "order  0 1", "order 0  1", "order 0 1 1",
            "order 00 1", "order 0 01", "order -0 1", "order +0 1", "order 0 -1", "order 0 1.", "order 0 1_0", "order 0 a",
            "order 1234567890 0", "order 0 1000000000", "order 0 0000000001", "order" + " 0 1" * 7, "orders 0 1", "Order 0 1",
            "out", "out ", "out 0 ", "out  0", " out 0", "out 0 0", "out 00", "out 1234567890", "out x", "out -1", "outt 0",
            "in", "in 0 1", "in 01", "0", "order,0,1", "order 0,1", "robot 0 0", "job 0 1 2 3", "out:0", "out0", "order 0 1|",
        ]:
            for at in range(len(right) + 1):
                lines = right[:at] + [bad] + right[at:] + [bad]
                self.assertEqual(self.bad_line("".join(line + "\n" for line in lines)), at + 1, bad)

    def test_what_stands_behind_the_last_line_feed(self):
        for text, line in [
            ("order 0 1", 1), ("out 0\nin 0", 2), ("out 0\nin 0\n ", 3), ("out 0\nx", 2), ("x\nout 0", 1), ("out 0\nx\nin 0", 2),
            ("out 0\nout 0\nx", 3), ("out 9\nin 0", 2), (" ", 1),
        ]:
            self.assertEqual(self.bad_line(text), line)

    def test_no_string_behind_not_well_formed(self):
        for thing in TEXTS_NOT:
            with self.assertRaises(BadText) as held:
                read_book_text(TWO_ROWS, thing)
            self.assertEqual(held.exception.line, 0)
        for floor, pair in BAD_FLOORS:
            for text in (None, "", "x", "out 0\n"):
                with self.assertRaises(NotWellFormed) as held:
                    read_book_text(floor, text)
                self.assertEqual((held.exception.who, held.exception.station), pair)

    def test_bad_entry_behind_bad_text(self):
        for text, index in [
            ("in 0\n", 0), ("out 0\nout 0\n", 1), ("out 2\n", 0), ("order 0 1\norder 0 2\n", 1), ("order 999999999 0\n", 0),
            ("out 0\nout 1\norder 0 1\nin 1\n", 2), ("out 999999999\n", 0), ("out 0\nin 0\n" * 200 + "out 0\n", 400),
            ("order 0 1 1 1 0 0 1 0 0 1\n" * 20 + "order 0 0\n", 20), ("out 1\norder 0 1\nin 0\nin 0\n", 2),
        ]:
            with self.assertRaises(BadEntry) as held:
                read_book_text(TWO_ROWS, text)
            self.assertEqual(held.exception.index, index)
            self.assertEqual(self.bad_line(text + "x\n"), text.count("\n") + 1)


class Plans(unittest.TestCase):
    def test_by_hand(self):
        self.assertEqual(plan_text(plan_of(TWO_ROWS, ONE)), PLAN_ONE)
        self.assertEqual(plan_text(plan_of(TWO_ROWS, TWO)), PLAN_TWO)
        self.assertEqual(plan_text(plan_of(TWO_ROWS, [])), "robot 0 0\nrobot 0 3\n")
        self.assertEqual(read_plan(TWO_ROWS, TWO, PLAN_TWO), plan_of(TWO_ROWS, TWO))

    def test_read_back(self):
        for floor, entries in sample_plans():
            plan = plan_of(floor, entries)
            text = plan_text(plan)
            lines = ["robot " + " ".join(f"{tick} {cell}" for tick, cell in track) for track in plan.tracks]
            lines += ["job " + " ".join(map(str, job)) for job in plan.jobs]
            self.assertEqual(text, "".join(line + "\n" for line in lines))
            for some in (list(entries), tuple(entries)):
                found = read_plan(floor, some, text)
                self.assertEqual((found.tracks, found.jobs), (plan.tracks, plan.jobs))
                self.assertIsInstance(found, Plan)

    def test_plans_that_are_not_the_plain_one(self):
        # any plan of the entries will do: here robot 1 does the one order
        out = [("out", 0)] + ONE
        other = plan_of(TWO_ROWS, out)
        self.assertNotEqual(other, plan_of(TWO_ROWS, ONE))
        self.assertEqual(read_plan(TWO_ROWS, ONE, plan_text(other)), other)
        with self.assertRaises(NoPlan):
            read_plan(TWO_ROWS, out, PLAN_ONE)

    def bad_line(self, text, entries=TWO):
        with self.assertRaises(BadText) as held:
            read_plan(TWO_ROWS, entries, text)
        return held.exception.line

    def test_no_string(self):
        for thing in TEXTS_NOT:
            self.assertEqual(self.bad_line(thing), 0)

    def test_lines_of_no_form(self):
        right = PLAN_TWO.split("\n")[:4]
        for bad in [
            "", " ", "robot", "robot ", "robot 0", "robot 0 0 1", "robot 0 0 ", " robot 0 0", "robot  0 0", "robot 0  0",
            "robot 00 0", "robot 0 00", "robot -1 0", "robot 1234567890 0", "robot 0 1000000000", "robot 0 x", "Robot 0 0", "robots 0 0",
            "job", "job ", "job 0", "job 0 2 4", "job 0 2 4 8 9", "job 0 2 4 8 ", " job 0 2 4 8", "job  0 2 4 8", "job 0 2  4 8",
            "job 0 2 4 08", "job 00 2 4 8", "job 0 2 4 -8", "job 0 2 4 1234567890", "job 0 2 4 x", "jobs 0 2 4 8", "order 0 1", "0 0",
        ]:
            for at in range(4):
                lines = right[:at] + [bad] + right[at + 1:]
                self.assertEqual(self.bad_line("".join(line + "\n" for line in lines)), at + 1, bad)

    def test_lines_that_cannot_stand_there(self):
        robots, jobs = PLAN_TWO.split("\n")[:2], PLAN_TWO.split("\n")[2:4]
        for lines, line in [
            (robots + jobs + jobs[:1], 5), (robots + jobs + robots[:1], 5), (robots + jobs + [""], 5), (robots + robots[:1] + jobs, 3),
            (robots[:1] + jobs[:1] + robots[1:] + jobs[1:], 2), (jobs + robots, 1), (robots[:1] + jobs, 2), (robots + ["x"] + jobs, 3),
            (robots + jobs + ["x", "y"], 5), (robots + jobs + jobs[:1] + ["x"], 5),
        ]:
            self.assertEqual(self.bad_line("".join(one + "\n" for one in lines)), line)
        self.assertEqual(self.bad_line(PLAN_ONE + "job 0 2 4 8\n", ONE), 4)
        self.assertEqual(self.bad_line(PLAN_ONE, []), 3)

    def test_lines_that_lack_and_what_stands_behind(self):
        lines = PLAN_TWO.split("\n")[:4]
        for many in range(4):
            text = "".join(line + "\n" for line in lines[:many])
            self.assertEqual(self.bad_line(text), many + 1)
            self.assertEqual(self.bad_line(text + lines[many]), many + 1)
            self.assertEqual(self.bad_line(text + "x"), many + 1)
        self.assertEqual(self.bad_line(PLAN_TWO + " "), 5)
        self.assertEqual(self.bad_line(PLAN_TWO + "job 0 2 4 8"), 5)
        self.assertEqual(self.bad_line(PLAN_TWO + "x\ny"), 5)
        self.assertEqual(self.bad_line(PLAN_TWO[:-1]), 4)
        self.assertEqual(self.bad_line("x" + PLAN_TWO[:-1]), 1)
        self.assertEqual(self.bad_line("\n", []), 1)
        self.assertEqual(self.bad_line("", []), 1)

    def test_no_plan(self):
        for text, entries in [
            (PLAN_TWO.replace("8 0\n", "9 0\n", 1), TWO), (PLAN_TWO.replace("job 1", "job 0"), TWO), (PLAN_ONE, [("orders", ((1, 0),))]),
            (PLAN_TWO.replace("job 0", "job 7"), TWO), (PLAN_ONE.replace("robot 0 3", "robot 0 4"), ONE), ("robot 0 3\nrobot 0 0\n", []),
            ("robot 0 0\nrobot 1 3\n", []), ("robot 0 0\nrobot 0 3 1 4 2 3\n", []), ("robot 0 0 999999999 1\nrobot 0 3\n", []),
            (PLAN_ONE.replace("6 2", "6 999999999"), ONE), (PLAN_ONE.replace("4 5", "3 5"), ONE),
        ]:
            with self.assertRaises(NoPlan):
                read_plan(TWO_ROWS, entries, text)
        self.assertEqual(self.bad_line(PLAN_TWO.replace("8 0\n", "9 0\n", 1) + "x\n"), 5)


class Errors(unittest.TestCase):
    def test_no_others(self):
        for thing in odd_things():
            for call in (read_floor, lambda text: read_book_text(TWO_ROWS, text), lambda text: read_plan(TWO_ROWS, TWO, text)):
                try:
                    found = call(thing)
                except FloorError as error:
                    self.assertIn(error.__class__, (BadText, BadFloor) if thing == "" else (BadText,))
                else:
                    # no text at all is that of a book of no entries
                    self.assertEqual((thing, found.entries()), ("", []))


if __name__ == "__main__":
    unittest.main()

"""[1.1]: floors, their cells, what is beside them, homes and stations."""

import random
import unittest

from allbrought.errors import BadFloor, NoCell
from allbrought.floors import Floor, cells, homes, neighbours, stations
from allbrought.tracks import Plan
from tests import slow
from tests.things import GOOD_FLOORS, TWO_ROWS, odd_things


class Floors(unittest.TestCase):
    def refused(self, rows):
        with self.assertRaises(BadFloor) as held:
            Floor(rows)
        return held.exception.part

    def test_all_sizes_from_the_least_to_the_greatest(self):
        for many in range(1, 13):
            for length in range(1, 13):
                rows = ("H" + "." * (length - 1),) + ("#" * length,) * (many - 1)
                floor = Floor(rows)
                self.assertEqual(floor.rows, rows)
                self.assertEqual(cells(floor), tuple((0, column) for column in range(length)))
                self.assertEqual((homes(floor), stations(floor)), ((0,), ()))

    def test_as_many_homes_as_six(self):
        for many in range(1, 7):
            self.assertEqual(homes(Floor(("H" * many,))), tuple(range(many)))
        self.assertEqual(self.refused(("H" * 7,)), "homes")
        self.assertEqual(self.refused(("HHHH", "HHH.")), "homes")
        self.assertEqual(self.refused(("...", "S#S")), "homes")
        self.assertEqual(self.refused(("H" * 12,) * 12), "homes")

    def test_no_tuple_of_so_many(self):
        for rows in [(), ("H",) * 13, ["H"], "H", None, 5, True, {"H": 1}, b"H", {0: "H"}, ("H" * 13,) * 13, TWO_ROWS]:
            self.assertEqual(self.refused(rows), -1)
        for thing in odd_things():
            if not isinstance(thing, tuple) or not 1 <= len(thing) <= 12:
                self.assertEqual(self.refused(thing), -1)

    def test_the_first_row_that_is_none(self):
        bad = ["", "." * 13, "h.", "H ", "HO", "H.\n", "H", "H..", None, 5, True, ["H", "."], ("H", "."), b"H.",
               {"H": 1}, TWO_ROWS]
        for row in bad:
            for at in range(1, 12):
                self.assertEqual(self.refused(("H.",) * at + (row,) + ("H.",) * (11 - at)), at, row)
        for row in ["", "." * 13, "h.", "H ", None, 5, True, ["H", "."], ("H", "."), b"H."]:
            self.assertEqual(self.refused((row, "H.")), 0)
            self.assertEqual(self.refused((row, row)), 0)
        self.assertEqual(self.refused(("H", "H.")), 1)
        self.assertEqual(self.refused(("H.", "?.", "H")), 1)
        for thing in odd_things():
            if isinstance(thing, tuple) and 1 <= len(thing) <= 12:
                self.assertEqual(self.refused(thing), 0)
            self.assertEqual(self.refused((thing, "H")), 1 if thing == "H.S" else 0)
            if not isinstance(thing, str):
                self.assertEqual(self.refused(("H", thing)), 1)

    def test_the_row_ahead_of_the_homes(self):
        self.assertEqual(self.refused(("..", "...")), 1)
        self.assertEqual(self.refused(("HHHHHHH", "x......")), 1)
        self.assertEqual(self.refused(("." * 12,) * 13), -1)

    def test_cells_and_what_is_beside_them(self):
        floor = Floor((".#H", "S.#", "#H."))
        self.assertEqual(cells(floor), ((0, 0), (0, 2), (1, 0), (1, 1), (2, 1), (2, 2)))
        self.assertEqual([neighbours(floor, cell) for cell in range(6)], [(2,), (), (0, 3), (2, 4), (3, 5), (4,)])
        self.assertEqual((homes(floor), stations(floor)), ((1, 4), (2,)))
        self.assertEqual(neighbours(Floor(("...", ".H.", "...")), 4), (1, 3, 5, 7))

    def test_against_the_words(self):
        chance = random.Random(11)
        for floor in GOOD_FLOORS + [slow.random_floor(chance, 12, 12) for _ in range(30)]:
            self.assertEqual(cells(floor), tuple(cell for cell, _ in slow.grid(floor)))
            self.assertEqual(homes(floor), tuple(slow.cells_with(floor, "H")))
            self.assertEqual(stations(floor), tuple(slow.cells_with(floor, "S")))
            for cell in range(len(cells(floor))):
                self.assertEqual(neighbours(floor, cell), tuple(slow.near(floor, cell)))

    def test_no_cell(self):
        for thing in odd_things() + [6, 7, (0,), (0, 0)]:
            with self.assertRaises(NoCell):
                neighbours(TWO_ROWS, thing)

    def test_equal_if_the_rows_are(self):
        self.assertTrue(Floor(("H.S", "H.S")) == TWO_ROWS)
        self.assertFalse(Floor(("H.S", "H.S")) != TWO_ROWS)
        self.assertFalse(Floor(("H.S", "HS.")) == TWO_ROWS)
        self.assertFalse(Floor(("H.S",)) == TWO_ROWS)
        for thing in odd_things() + [TWO_ROWS.rows, Plan(TWO_ROWS.rows, ()), list(TWO_ROWS.rows)]:
            self.assertIs(TWO_ROWS == thing, False)
            self.assertIs(thing == TWO_ROWS, False)
            self.assertIs(TWO_ROWS != thing, True)


if __name__ == "__main__":
    unittest.main()

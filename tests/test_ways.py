"""[1.2]: ways, what bars them, well formed floors, and how far cells are."""

import random
import unittest
from itertools import combinations

from allbrought.errors import NoCell, NoRobot, NoStation
from allbrought.floors import (
    Floor, barred, barring, cells, far, homes, is_barring, is_well_formed, neighbours, stations, way,
)
from allbrought.tracks import Plan
from tests import slow
from tests.things import BAD_FLOORS, GOOD_FLOORS, TWO_ROWS, nested, odd_things


def some_floors():
    chance = random.Random(12)
    floors = GOOD_FLOORS + [floor for floor, _ in BAD_FLOORS]
    return floors + [slow.random_floor(chance, 5, 6) for _ in range(120)]


def errands(floor):
    return [
        (robot, station) for robot in range(len(homes(floor))) for station in range(len(stations(floor)))
    ]


def others_homes(floor, robot):
    return [home for number, home in enumerate(homes(floor)) if number != robot]


def bars(floor, robot, station, lot):
    """Whether without these cells no way at all leads to the station."""
    allowed = [cell for cell in range(len(cells(floor))) if cell not in lot]
    return slow.fewest_steps(floor, allowed, homes(floor)[robot], stations(floor)[station]) is None


class Ways(unittest.TestCase):
    def test_ways_are_ways_of_the_fewest_cells(self):
        there = parted = 0
        for floor in some_floors():
            for robot, station in errands(floor):
                home, goal = homes(floor)[robot], stations(floor)[station]
                steps = slow.fewest_steps(floor, slow.open_cells(floor, robot), home, goal)
                found = way(floor, robot, station)
                if steps is None:
                    parted += 1
                    self.assertIsNone(found)
                else:
                    there += 1
                    self.assertIsInstance(found, tuple)
                    self.assertEqual(len(found), steps + 1)
                    self.assertEqual((found[0], found[-1]), (home, goal))
                    for cell, then in zip(found, found[1:]):
                        self.assertIn(then, neighbours(floor, cell))
                    self.assertEqual(set(found) & set(others_homes(floor, robot)), set())
        self.assertGreater(min(there, parted), 50)

    def test_walls_and_homes_in_between(self):
        self.assertEqual(way(Floor(("H.S",)), 0, 0), (0, 1, 2))
        self.assertEqual(way(Floor(("HHS", "..#", "...")), 0, 0), None)
        self.assertEqual(way(Floor(("HHS", "...")), 0, 0), (0, 3, 4, 5, 2))
        self.assertEqual(way(Floor(("H#S", "...")), 0, 0), (0, 2, 3, 4, 1))
        self.assertEqual(way(Floor(("H#S",)), 0, 0), None)
        self.assertEqual(way(Floor(("HSS",)), 0, 1), (0, 1, 2))

    def test_barring_bars(self):
        for floor in some_floors():
            for robot, station in errands(floor):
                found = barring(floor, robot, station)
                if way(floor, robot, station) is not None:
                    self.assertIsNone(found)
                else:
                    self.assertIsInstance(found, tuple)
                    self.assertEqual(list(found), sorted(set(found)))
                    self.assertLessEqual(set(found), set(others_homes(floor, robot)))
                    self.assertTrue(bars(floor, robot, station, found))
                    self.assertIs(is_barring(floor, robot, station, found), True)

    def test_is_barring_of_each_lot(self):
        for floor in some_floors():
            for robot, station in errands(floor):
                others = others_homes(floor, robot)
                for many in range(len(others) + 1):
                    for lot in combinations(others, many):
                        expected = bars(floor, robot, station, lot)
                        self.assertIs(is_barring(floor, robot, station, lot), expected)

    def test_is_barring_of_things_that_are_none(self):
        floor = Floor(("HHS", "..#", "#H."))
        self.assertTrue(is_barring(floor, 0, 0, (1,)))
        self.assertTrue(is_barring(floor, 0, 0, (1, 5)))
        for lot in [(5, 1), (1, 1), (0, 1), (1, 2), (1, 99), [1], 1, (True,), (1, True), (-1, 1), ("1",), (1, None),
                    ((1,),), "1", {1: 1}, None, (), (5,)]:
            self.assertIs(is_barring(floor, 0, 0, lot), False, lot)
        parted = Floor(("H#SH",))
        self.assertIs(is_barring(parted, 0, 0, ()), True)
        self.assertIs(is_barring(parted, 0, 0, (2,)), True)
        for thing in odd_things() + [nested(tuple, 40)]:
            self.assertIs(is_barring(floor, 0, 0, thing), False)
            self.assertIs(is_barring(parted, 0, 0, thing), False)

    def test_well_formed(self):
        for floor in GOOD_FLOORS:
            self.assertIs(is_well_formed(floor), True)
            self.assertIsNone(barred(floor))
        for floor, pair in BAD_FLOORS:
            self.assertIs(is_well_formed(floor), False)
            self.assertEqual(barred(floor), pair)
        self.assertIs(is_well_formed(Floor(("HH#H",))), True)
        for floor in some_floors():
            parted = [pair for pair in errands(floor) if way(floor, *pair) is None]
            self.assertEqual(barred(floor), min(parted, default=None))
            self.assertIs(is_well_formed(floor), parted == [])

    def test_is_well_formed_judges_anything(self):
        for thing in odd_things() + [Plan((), ()), TWO_ROWS.rows]:
            self.assertIs(is_well_formed(thing), thing == Floor(("HS",)))

    def test_far(self):
        for floor in some_floors()[:60]:
            many = len(cells(floor))
            for robot in range(len(homes(floor))):
                allowed = slow.open_cells(floor, robot)
                for one in range(0, many, 1 + many // 12):
                    for other in range(0, many, 1 + many // 9):
                        if one in allowed and other in allowed:
                            steps = slow.fewest_steps(floor, allowed, one, other)
                            self.assertEqual(far(floor, robot, one, other), steps)
                        else:
                            with self.assertRaises(NoCell):
                                far(floor, robot, one, other)
        self.assertEqual(far(TWO_ROWS, 0, 2, 2), 0)
        self.assertIsNone(far(Floor(("H#.",)), 0, 0, 1))

    def test_no_robot_no_station_in_this_order(self):
        for call in (way, barring, lambda *three: is_barring(*three, ())):
            for thing in odd_things() + [2, 3]:
                with self.assertRaises(NoRobot):
                    call(TWO_ROWS, thing, 0)
                with self.assertRaises(NoStation):
                    call(TWO_ROWS, 0, thing)
                with self.assertRaises(NoRobot):
                    call(TWO_ROWS, thing, thing)
            with self.assertRaises(NoStation):
                call(Floor(("H.",)), 0, 0)

    def test_no_robot_no_cell_in_this_order(self):
        for thing in odd_things() + [2, 6]:
            with self.assertRaises(NoRobot):
                far(TWO_ROWS, thing, 0, 1)
            with self.assertRaises(NoRobot):
                far(TWO_ROWS, thing, thing, thing)
        for thing in odd_things() + [3, 6]:
            for one, other in [(thing, 1), (1, thing), (thing, thing)]:
                with self.assertRaises(NoCell):
                    far(TWO_ROWS, 0, one, other)
        self.assertEqual(far(TWO_ROWS, 1, 3, 5), 2)


if __name__ == "__main__":
    unittest.main()

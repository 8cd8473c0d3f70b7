"""[3.2]: best paths, and the plain plan."""

import random
import unittest

from allbrought.errors import NoRobot, NoStation
from allbrought.floors import Floor, cells, homes, stations
from allbrought.plans import best_path, is_plan, plan_of
from allbrought.tracks import last_tick
from tests import slow
from tests.things import GOOD_FLOORS, ONE, TWO, TWO_ROWS, odd_things


class BestPath(unittest.TestCase):
    def test_by_hand(self):
        self.assertEqual(best_path(TWO_ROWS, (), 1, (1, 1)), (6, (3, 4, 5, 5, 5, 4, 3)))
        self.assertEqual(best_path(TWO_ROWS, (), 0, (0, 1)), (8, (0, 1, 2, 2, 5, 5, 2, 1, 0)))

    def test_barred_cells_make_it_wait(self):
        # cell 1 is barred up to tick 8, cell 2 up to 7, cell 5 up to 6; of the least home tick the least rows
        self.assertEqual(best_path(TWO_ROWS, ONE, 1, (1, 1)), (11, (3, 3, 3, 3, 3, 3, 4, 5, 5, 5, 4, 3)))
        self.assertEqual(best_path(TWO_ROWS, ONE, 1, (0, 0)), (13, (3, 3, 3, 3, 3, 3, 4, 5, 2, 2, 2, 1, 4, 3)))

    def test_behind_the_last_job_of_the_robot(self):
        # what a robot did itself bars nothing to it
        self.assertEqual(best_path(TWO_ROWS, ONE, 0, (0, 0)), (14, (0, 1, 2, 2, 2, 1, 0)))

    def test_least_floors_against_all_rows(self):
        chance = random.Random(41)
        for rows in [("HS",), ("HSH",), ("HSS",), ("H.S",), ("SHS",), ("HS", "S#"), ("HSH", "#H#"), ("H.", "S#")]:
            floor = Floor(rows)
            for _ in range(6):
                entries = slow.random_entries(chance, floor, chance.randint(0, 2))
                ways = slow.ways_of(floor, entries)
                for robot in range(len(homes(floor))):
                    order = (chance.randrange(len(stations(floor))), chance.randrange(len(stations(floor))))
                    if slow.greatest_tick(ways.tracks) < 12:
                        expected = ways.best_of_all_rows(len(entries), robot, order)
                        self.assertEqual(best_path(floor, entries, robot, order), expected)
                        self.assertEqual(ways.best(len(entries), robot, order), expected)

    def test_against_the_words(self):
        chance = random.Random(42)
        for _ in range(150):
            floor = slow.good_floor(chance, 4, 4)
            entries = slow.random_entries(chance, floor, chance.randint(0, 4))
            ways = slow.ways_of(floor, entries)
            for robot in range(len(homes(floor))):
                order = (chance.randrange(len(stations(floor))), chance.randrange(len(stations(floor))))
                expected = ways.best(len(entries), robot, order)
                for told in (entries, tuple(entries)):
                    found = best_path(floor, told, robot, order)
                    self.assertEqual(found, expected)
                    self.assertIsInstance(found, tuple)
                    self.assertIsInstance(found[1], tuple)

    def test_of_a_robot_that_is_out(self):
        out = [("out", 0), ("out", 1)]
        self.assertEqual(best_path(TWO_ROWS, out, 0, (0, 1)), best_path(TWO_ROWS, (), 0, (0, 1)))

    def test_no_robot_then_no_station(self):
        for thing in odd_things() + [2]:
            for order in [(0, 0), (0, 2), thing]:
                with self.assertRaises(NoRobot):
                    best_path(TWO_ROWS, TWO, thing, order)
        for thing in odd_things() + [(0, 2), (2, 0), [0, 1], (0,), (0, 1, 0), "01", (0, False), (True, 1)]:
            with self.assertRaises(NoStation):
                best_path(TWO_ROWS, TWO, 1, thing)
            with self.assertRaises(NoStation):
                best_path(TWO_ROWS, TWO, 1, (0, thing))
            with self.assertRaises(NoStation):
                best_path(TWO_ROWS, TWO, 1, (thing, 0))
        with self.assertRaises(NoStation):
            best_path(Floor(("H.",)), (), 0, (0, 0))


class PlainPlan(unittest.TestCase):
    def test_against_the_words(self):
        chance = random.Random(43)
        for _ in range(250):
            floor = slow.good_floor(chance, 4, 5)
            entries = slow.random_entries(chance, floor, chance.randint(0, 6))
            expected = slow.plain(floor, entries)
            self.assertEqual(plan_of(floor, entries), expected)
            self.assertEqual(plan_of(floor, tuple(entries)), expected)

    def test_many_orders_in_one_entry(self):
        chance = random.Random(44)
        for floor in [Floor(("H.H.H", ".....", "#.S.#", ".S#S.")), Floor(("#H#H#", "S...S", "#H#H#"))]:
            for _ in range(6):
                pairs = tuple(
                    (chance.randrange(len(stations(floor))), chance.randrange(len(stations(floor)))) for _ in range(6)
                )
                entries = [("orders", pairs), ("orders", pairs[:2])]
                self.assertEqual(plan_of(floor, entries), slow.plain(floor, entries))

    def test_the_least_of_like_robots(self):
        floor = Floor(("#H#", "HSH", "#H#"))
        order = ("orders", ((0, 0),))
        self.assertEqual([job[0] for job in plan_of(floor, [order, order]).jobs], [0, 0])
        plan = plan_of(floor, [("out", 0), order, ("in", 0), ("out", 1), ("out", 3), order])
        self.assertEqual([job[0] for job in plan.jobs], [1, 0])
        plan = plan_of(floor, [("out", 0), ("out", 1), order, ("in", 1), ("out", 2), order])
        self.assertEqual([job[0] for job in plan.jobs], [2, 1])

    def test_the_robot_of_the_least_home_tick(self):
        floor = Floor(("H...SH",))
        self.assertEqual(plan_of(floor, [("orders", ((0, 0),))]).jobs, ((1, 1, 2, 4),))
        self.assertEqual(plan_of(floor, [("out", 1), ("orders", ((0, 0),))]).jobs, ((0, 4, 5, 10),))
        self.assertEqual(plan_of(floor, [("out", 1), ("in", 1), ("orders", ((0, 0),))]).jobs, ((1, 1, 2, 4),))

    def test_waiting_beside_orders_of_one_entry_and_behind_elder_ones(self):
        floor = Floor(("HSSSH",))
        orders = ((0, 2), (2, 0))
        # in one entry robot 1 may go first into cells in which robot 0 comes later
        together = plan_of(floor, [("orders", orders)])
        one_by_one = plan_of(floor, [("orders", orders[:1]), ("orders", orders[1:])])
        self.assertEqual(together.jobs, ((0, 1, 4, 8), (1, 1, 9, 13)))
        self.assertEqual(one_by_one.jobs, ((0, 1, 4, 8), (1, 7, 10, 14)))

    def test_beginnings_of_those_of_more_entries(self):
        chance = random.Random(45)
        for floor in GOOD_FLOORS[:9]:
            entries = slow.random_entries(chance, floor, 10)
            whole = plan_of(floor, entries)
            for many in range(len(entries)):
                part = plan_of(floor, entries[:many])
                self.assertEqual(whole.jobs[:len(part.jobs)], part.jobs)
                for track, longer in zip(part.tracks, whole.tracks):
                    self.assertEqual(longer[:len(track)], track)

    def test_the_fact_of_plans(self):
        chance = random.Random(46)
        for floor in GOOD_FLOORS + [slow.good_floor(chance, 5, 6) for _ in range(25)]:
            entries = slow.random_entries(chance, floor, 8)
            plan = plan_of(floor, entries)
            self.assertTrue(is_plan(floor, entries, plan))
            for robot in range(len(homes(floor))):
                for order in [(0, 0), (0, len(stations(floor)) - 1)]:
                    end, row = best_path(floor, entries, robot, order)
                    self.assertLessEqual(end, last_tick(plan) + 4 * len(cells(floor)) + 8)
                    self.assertEqual((row[0], row[-1]), (homes(floor)[robot],) * 2)
                    start = max([job[3] for job in plan.jobs if job[0] == robot], default=0)
                    self.assertEqual(len(row), end - start + 1)

    def test_a_full_book(self):
        floor = GOOD_FLOORS[-1]
        entries = [("orders", ((number % 2, (number + 1) % 2),) * 5) for number in range(20)]
        self.assertTrue(is_plan(floor, entries, plan_of(floor, entries)))
        entries = [("out", robot) for robot in range(1, 6)] + [("orders", ((0, 1),))] * 99
        entries += [("in", 5), ("out", 0), ("orders", ((1, 0),))]
        plan = plan_of(floor, entries)
        self.assertTrue(is_plan(floor, entries, plan))
        self.assertEqual({job[0] for job in plan.jobs[:-1]}, {0})
        self.assertEqual(plan.jobs[-1][0], 5)


if __name__ == "__main__":
    unittest.main()

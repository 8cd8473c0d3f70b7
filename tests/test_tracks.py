"""[3.1], [3.3]: where robots are, the last tick, the first clash, and stretches."""

import random
import unittest

from allbrought.errors import NoCell, NoRobot, NoTick, NoTracks
from allbrought.floors import Floor, cells, homes
from allbrought.plans import plan_of
from allbrought.tracks import Plan, first_clash, last_tick, stretches, where
from tests import slow
from tests.things import GOOD_FLOORS, ONE, TWO, TWO_ROWS, odd_things

FAR_TICK = 10 ** 19
LINE = Floor(("H...H",))


def wandering(chance, floor):
    """Right tracks of any kind, that may clash."""
    tracks = []
    for robot, home in enumerate(homes(floor)):
        track = [(0, home)]
        for _ in range(chance.randint(0, 7)):
            tick, cell = track[-1]
            beside = [then for then in slow.near(floor, cell) if then in slow.open_cells(floor, robot)]
            if beside:
                track.append((tick + chance.choice([1, 1, 1, 2, 3, 6]), chance.choice(beside)))
        tracks.append(tuple(track))
    return tuple(tracks)


def some_plans():
    chance = random.Random(21)
    plans = [(TWO_ROWS, plan_of(TWO_ROWS, ())), (TWO_ROWS, plan_of(TWO_ROWS, ONE)), (TWO_ROWS, plan_of(TWO_ROWS, TWO))]
    for _ in range(25):
        floor = slow.good_floor(chance, 4, 5)
        plans.append((floor, plan_of(floor, slow.random_entries(chance, floor, 4))))
    return plans


class Where(unittest.TestCase):
    def test_at_between_and_behind_pairs(self):
        plan = Plan((((0, 0), (1, 1), (4, 2), (6, 1)), ((0, 4),), ((0, 5), (10 ** 8, 6))), ())
        told = [where(plan, tick) for tick in (0, 1, 2, 3, 4, 5, 6, 7, 100, 10 ** 8 - 1, 10 ** 8, 10 ** 9)]
        self.assertEqual([cell for cell, _, _ in told], [0, 1, 1, 1, 2, 2, 1, 1, 1, 1, 1, 1])
        self.assertEqual([cell for _, _, cell in told], [5] * 10 + [6, 6])
        self.assertEqual({cell for _, cell, _ in told}, {4})
        self.assertIsInstance(told[0], tuple)

    def test_each_tick_of_plans(self):
        for _, plan in some_plans():
            for tick in range(last_tick(plan) + 3):
                self.assertEqual(where(plan, tick), tuple(slow.cell_at(track, tick) for track in plan.tracks))

    def test_pairs_beyond_the_last_tick_that_is_asked(self):
        plan = Plan((((0, 0), (FAR_TICK, 1)),), ())
        self.assertEqual(where(plan, 10 ** 9), (0,))

    def test_no_tick(self):
        plan = plan_of(TWO_ROWS, TWO)
        for thing in odd_things() + [10 ** 9 + 1, -1]:
            with self.assertRaises(NoTick):
                where(plan, thing)

    def test_last_tick(self):
        self.assertEqual(last_tick(plan_of(TWO_ROWS, ())), 0)
        self.assertEqual(last_tick(plan_of(TWO_ROWS, ONE)), 8)
        self.assertEqual(last_tick(plan_of(TWO_ROWS, TWO)), 11)
        self.assertEqual(last_tick(Plan((((0, 0), (FAR_TICK, 1)), ((0, 3), (5, 2))), ())), FAR_TICK)
        for _, plan in some_plans():
            self.assertEqual(last_tick(plan), slow.greatest_tick(plan.tracks))


class Clashes(unittest.TestCase):
    def test_at_one_tick_and_at_the_next_one(self):
        def clash(one, other):
            return first_clash(LINE, (((0, 0),) + one, ((0, 4),) + other))
        self.assertEqual(clash(((1, 1), (2, 2)), ((2, 3), (3, 2))), (2, 3, 0, 1))
        self.assertEqual(clash(((2, 1), (3, 2)), ((1, 3), (3, 2))), (3, 3, 0, 1))
        self.assertEqual(clash(((1, 1), (4, 2)), ((1, 3), (2, 2), (3, 3))), None)
        self.assertEqual(clash(((1, 1), (3, 2)), ((1, 3), (2, 2), (3, 3))), (2, 3, 1, 0))
        self.assertEqual(clash(((1, 1), (2, 2), (3, 1)), ((1, 3), (4, 2))), None)
        self.assertEqual(clash(((1, 1), (2, 2), (3, 1)), ((1, 3), (3, 2))), (2, 3, 0, 1))
        # who changes places meets: each is in the other's cell a tick later
        self.assertEqual(clash(((1, 1), (2, 2)), ((1, 3), (2, 2))), (2, 2, 0, 1))
        self.assertEqual(clash(((1, 1), (2, 2), (3, 3)), ((2, 3), (3, 2))), (2, 3, 0, 1))

    def test_the_least_robots_of_several(self):
        floor = Floor(("H.H", "#H#"))
        first = ((0, 0), (1, 1))
        self.assertEqual(first_clash(floor, (first, ((0, 2), (5, 1)), ((0, 3), (5, 1), (6, 3)))), (4, 5, 0, 1))
        self.assertEqual(first_clash(floor, (first, ((0, 2), (5, 1), (6, 2)), ((0, 3), (5, 1)))), (4, 5, 0, 1))
        self.assertEqual(first_clash(floor, (first, ((0, 2), (6, 1), (7, 2)), ((0, 3), (5, 1)))), (4, 5, 0, 2))
        self.assertEqual(first_clash(floor, (first, ((0, 2), (1, 1)), ((0, 3), (1, 1)))), (1, 1, 0, 1))
        self.assertEqual(first_clash(floor, (((0, 0),), ((0, 2), (1, 1), (2, 2)), ((0, 3), (1, 1)))), (1, 1, 1, 2))
        self.assertEqual(first_clash(floor, (((0, 0), (4, 1)), ((0, 2), (1, 1)), ((0, 3),))), (3, 4, 1, 0))

    def test_far_ticks(self):
        one = ((0, 0), (FAR_TICK, 1), (FAR_TICK + 1, 2))
        self.assertEqual(first_clash(LINE, (one, ((0, 4), (3, 3), (4, 2)))), (FAR_TICK, FAR_TICK + 1, 1, 0))
        self.assertEqual(first_clash(LINE, (one, ((0, 4), (3, 3), (4, 2), (FAR_TICK, 3)))), None)
        self.assertEqual(first_clash(LINE, (one, ((0, 4), (3, 3), (4, 2), (FAR_TICK + 1, 3)))),
                         (FAR_TICK, FAR_TICK + 1, 1, 0))
        self.assertEqual(first_clash(LINE, (one, ((0, 4), (3, 3), (FAR_TICK + 9, 2)))),
                         (FAR_TICK + 8, FAR_TICK + 9, 0, 1))

    def test_against_the_words(self):
        chance = random.Random(22)
        apart = gaps = 0
        for _ in range(400):
            floor = slow.random_floor(chance, 3, 4) if chance.random() < 0.5 else Floor(("H.H", "H.H"))
            tracks = wandering(chance, floor)
            expected = slow.clash(tracks)
            self.assertEqual(first_clash(floor, tracks), expected)
            apart += expected is None
            gaps += expected is not None and expected[0] != expected[1]
        self.assertGreater(min(apart, gaps), 40)

    def test_plain_plans_are_apart(self):
        for floor, plan in some_plans():
            self.assertIsNone(first_clash(floor, plan.tracks))

    def test_no_tracks(self):
        good = plan_of(TWO_ROWS, TWO).tracks
        bad = [
            (), good[:1], good + good[1:], list(good), good[::-1], {0: good[0], 1: good[1]}, None, "ab",
            (list(good[0]), good[1]), ((), good[1]), (None, good[1]), (good[0], "ab"), (good[0], 5),
        ]
        tracks = [
            ((0, 1),), ((1, 0),), ((0, 3),), ((0, 0), (0, 1)), ((0, 0), (2, 1), (1, 2)), ((0, 0), (1, 2)),
            ((0, 0), (1, 0)), ((0, 0), (1, 3)), ((0, 0), (1, 1), (2, 6)), ((0, 0), (1, 1), (2, -1)), ((0, 0), (True, 1)),
            ((0, 0), (1, True)), ((False, 0),), ((0, False),), ((0, 0), [1, 1]), ([0, 0],), ((0, 0), (1, 1, 1)),
            ((0, 0), (1,)), ((0, 0), ()), ((0, 0), None), ((0, 0), ("1", 1)), ((0, 0), (1, "1")), ((0, 0), (1, None)),
            ((0, 0), (-1, 1)), ((0, 0), 1), (0, 0), ((1, 1),), ((0, 0), (1, 10 ** 20 - 1)),
        ]
        for thing in bad + [(track, good[1]) for track in tracks] + odd_things():
            with self.assertRaises(NoTracks):
                first_clash(TWO_ROWS, thing)
        for thing in odd_things():
            with self.assertRaises(NoTracks):
                first_clash(TWO_ROWS, (good[0], thing))
            with self.assertRaises(NoTracks):
                first_clash(TWO_ROWS, (((0, 0), thing), good[1]))
        self.assertIsNone(first_clash(TWO_ROWS, good))


class Stretches(unittest.TestCase):
    def test_of_one_plan(self):
        plan = plan_of(TWO_ROWS, TWO)
        self.assertEqual(stretches(plan, 2, 1), [(0, 0), (8, None)])
        self.assertEqual(stretches(plan, 2, 0), [(0, None)])
        self.assertEqual(stretches(plan, 0, 1), [(2, 6)])
        self.assertEqual(stretches(plan, 3, 0), [(7, 9)])
        self.assertEqual(stretches(plan, 3, 1), [(0, None)])
        self.assertEqual(stretches(plan_of(TWO_ROWS, ()), 0, 1), [])

    def test_tick_by_tick(self):
        for floor, plan in some_plans():
            for cell in range(len(cells(floor)) + 2):
                for robot in range(len(homes(floor))):
                    self.assertEqual(stretches(plan, cell, robot), slow.runs(plan.tracks, cell, robot))

    def test_far_ticks_and_cells(self):
        plan = Plan((((0, 0), (FAR_TICK, 1), (FAR_TICK + 5, 0)), ((0, 4),)), ())
        self.assertEqual(stretches(plan, 1, 1), [(0, FAR_TICK - 2), (FAR_TICK + 6, None)])
        self.assertEqual(stretches(plan, 10 ** 20 - 1, 0), [(0, None)])

    def test_apart_exactly_if_each_stay_is_in_a_stretch(self):
        chance = random.Random(23)
        kinds = set()
        for _ in range(300):
            floor = slow.random_floor(chance, 3, 4)
            tracks = wandering(chance, floor)
            plan = Plan(tracks, ())
            within = all(
                any(first >= start and (end is None or last is not None and last <= end)
                    for start, end in stretches(plan, cell, robot))
                for robot, track in enumerate(tracks)
                for (first, cell), last in zip(track, [tick - 1 for tick, _ in track[1:]] + [None])
            )
            self.assertEqual(within, first_clash(floor, tracks) is None)
            kinds.add(within)
        self.assertEqual(kinds, {True, False})

    def test_no_cell_then_no_robot(self):
        plan = plan_of(TWO_ROWS, TWO)
        for thing in odd_things():
            if thing != 10 ** 20 - 1:
                for robot in (0, 2, thing):
                    with self.assertRaises(NoCell):
                        stretches(plan, thing, robot)
            with self.assertRaises(NoRobot):
                stretches(plan, 0, thing)
        with self.assertRaises(NoRobot):
            stretches(plan, 99, 2)


class Plans(unittest.TestCase):
    def test_attributes_and_equality(self):
        plan = plan_of(TWO_ROWS, TWO)
        again = Plan(plan.tracks, plan.jobs)
        self.assertEqual((again.tracks, again.jobs), (plan.tracks, plan.jobs))
        self.assertTrue(again == plan)
        self.assertFalse(again != plan)
        self.assertFalse(Plan(plan.tracks, plan.jobs[:1]) == plan)
        self.assertFalse(Plan(plan.tracks[::-1], plan.jobs) == plan)
        for thing in odd_things() + [plan.tracks, (plan.tracks, plan.jobs), TWO_ROWS]:
            self.assertIs(plan == thing, False)
            self.assertIs(thing == plan, False)
            self.assertIs(plan != thing, True)

    def test_all_floors(self):
        for floor in GOOD_FLOORS:
            plan = plan_of(floor, ())
            self.assertEqual(plan, Plan(tuple(((0, home),) for home in homes(floor)), ()))


if __name__ == "__main__":
    unittest.main()

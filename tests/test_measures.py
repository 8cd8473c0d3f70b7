"""[4.5]: passes, busiest, rests, bounds and THE FACT OF BOUNDS."""

import random
import unittest

from allbrought.errors import NoRobot
from allbrought.floors import Floor
from allbrought.measures import bounds, busiest, passes, rests
from allbrought.plans import is_plan, plan_of
from allbrought.tracks import Plan
from tests import slow
from tests.things import GOOD_FLOORS, ONE, TWO, TWO_ROWS, odd_things, sample_plans


def plain_samples():
    """Floors, right entries and their plain plans."""
    chance = random.Random(101)
    made = [(floor, slow.random_entries(chance, floor, 6)) for floor in GOOD_FLOORS]
    return [(floor, entries, plan_of(floor, entries)) for floor, entries in sample_plans() + made]


def lingering(chance, floor):
    """A plan in which one robot strays and waits wherever it likes, the others being at home; with its entries."""
    robot = chance.randrange(len(slow.cells_with(floor, "H")))
    stations, home = slow.cells_with(floor, "S"), slow.cells_with(floor, "H")[robot]
    allowed = slow.open_cells(floor, robot)
    track, orders, jobs, last = [(0, home)], [], [], 0
    while len(jobs) < 3:
        way = list(track)
        for _ in range(60):
            cell = chance.choice([cell for cell in slow.near(floor, way[-1][1]) if cell in allowed])
            way.append((max(way[-1][0], last) + chance.choice((1, 1, 1, 2, 3, 6)), cell))
        order = (chance.randrange(len(stations)), chance.randrange(len(stations)))
        made = slow.job_made(
            lambda tick: slow.cell_at(way, tick), last, way[-1][0], stations[order[0]], stations[order[1]], home,
        )
        if made is not None:
            track = [pair for pair in way if pair[0] <= made[2]]
            orders.append(order)
            jobs.append((robot,) + made)
            last = made[2]
    tracks = [((0, other),) for other in slow.cells_with(floor, "H")]
    tracks[robot] = tuple(track)
    entries = [("out", other) for other in range(len(tracks)) if other != robot]
    return entries + [("orders", (order,)) for order in orders], Plan(tuple(tracks), tuple(jobs))


def lingering_samples():
    chance = random.Random(102)
    for floor in (Floor(("H.S", "S.H")), Floor(("H.S", "...", "S.H")), Floor(("HSS",)), GOOD_FLOORS[5]):
        for _ in range(4):
            entries, plan = lingering(chance, floor)
            yield floor, entries, plan


def slow_rests(plan, robot):
    """The stays, found by a look at each tick, without those that are too short, at home, or with a job's tick."""
    track = plan.tracks[robot]
    grouped = []
    for tick in range(slow.greatest_tick(plan.tracks) + 1):
        cell = slow.cell_at(track, tick)
        if grouped and grouped[-1][0] == cell:
            grouped[-1][1].append(tick)
        else:
            grouped.append((cell, [tick]))
    deeds = [{tick, tick + 1} for job in plan.jobs if job[0] == robot for tick in job[1:3]]
    return [
        (cell, ticks[0], ticks[-1]) for cell, ticks in grouped
        if len(ticks) > 1 and cell != track[0][1] and not any(deed <= set(ticks) for deed in deeds)
    ]


class Measures(unittest.TestCase):
    def samples(self):
        return plain_samples() + list(lingering_samples())

    def test_the_samples_are_plans(self):
        for floor, entries, plan in lingering_samples():
            self.assertTrue(is_plan(floor, entries, plan))

    def test_passes_and_busiest(self):
        unlike = set()
        for floor, _, plan in self.samples():
            counts = []
            for cell in range(len(slow.grid(floor))):
                into = [
                    tick
                    for track in plan.tracks
                    for tick in range(1, slow.greatest_tick(plan.tracks) + 1)
                    if slow.cell_at(track, tick) == cell != slow.cell_at(track, tick - 1)
                ]
                counts.append(len(into))
                self.assertEqual(passes(plan, cell), len(into))
            unlike |= set(counts)
            self.assertEqual(passes(plan, len(counts)), 0)
            expected = counts.index(max(counts)) if any(counts) else None
            self.assertEqual(busiest(plan), expected)
        self.assertGreater(len(unlike), 20)

    def test_passes_by_hand(self):
        plan = plan_of(TWO_ROWS, TWO)
        self.assertEqual([passes(plan, cell) for cell in range(7)], [1, 2, 2, 1, 2, 2, 0])
        self.assertEqual(busiest(plan), 1)
        # a cell is gone into, not begun in
        self.assertEqual(passes(plan_of(TWO_ROWS, ONE), 3), 0)
        self.assertIsNone(busiest(plan_of(TWO_ROWS, [])))
        self.assertIsNone(busiest(plan_of(Floor(("H",)), [("out", 0)])))
        self.assertEqual(busiest(Plan((((0, 0), (1, 1), (2, 0), (3, 1), (4, 2)), ((0, 3),)), ())), 1)

    def test_rests(self):
        found = 0
        for _, _, plan in self.samples():
            for robot in range(len(plan.tracks)):
                told = rests(plan, robot)
                self.assertIsInstance(told, list)
                self.assertEqual(told, slow_rests(plan, robot))
                found += len(told)
        self.assertGreater(found, 100)

    def test_rests_by_hand(self):
        # cells 0 1 2 3, the home 0, the stations 2 and 3
        floor = Floor(("H.SS",))
        entries = [("orders", ((1, 0),)), ("orders", ((0, 0),))]
        track = (
            (0, 0), (3, 1), (6, 2), (9, 3), (13, 2), (15, 1), (17, 0), (22, 1), (23, 2), (26, 1), (27, 0),
        )
        plan = Plan((track,), ((0, 9, 13, 17), (0, 23, 24, 27)))
        self.assertTrue(is_plan(floor, entries, plan))
        # on the way, and in a station whose order is not on yet; not at home, nor where it takes or puts
        self.assertEqual(rests(plan, 0), [(1, 3, 5), (2, 6, 8), (1, 15, 16)])
        short = Plan((((0, 0), (1, 1), (2, 2), (3, 1), (5, 0)),), ())
        self.assertEqual(rests(short, 0), [(1, 3, 4)])

    def test_rests_for_ever(self):
        # "in the last one for ever"
        plan = Plan((((0, 0), (1, 1), (4, 2)), ((0, 3),)), ())
        self.assertEqual(rests(plan, 0), [(1, 1, 3), (2, 4, None)])
        self.assertEqual(rests(plan, 1), [])
        self.assertEqual(rests(plan_of(TWO_ROWS, []), 0), [])

    def test_no_robot(self):
        plan = plan_of(TWO_ROWS, TWO)
        for thing in odd_things() + [2, 6]:
            with self.assertRaises(NoRobot):
                rests(plan, thing)

    def test_bounds(self):
        like = 0
        for floor, entries, plan in self.samples():
            told = slow.orders_told(floor, entries)
            homes, stations = slow.cells_with(floor, "H"), slow.cells_with(floor, "S")
            expected, lasts = [], [0] * len(homes)
            for (robot, _, _, end), (one, other, _, _) in zip(plan.jobs, told):
                route = [homes[robot], stations[one], stations[other], homes[robot]]
                allowed = slow.open_cells(floor, robot)
                far = [slow.fewest_steps(floor, allowed, here, there) for here, there in zip(route, route[1:])]
                expected.append(sum(far) + 2)
                # THE FACT OF BOUNDS
                self.assertGreaterEqual(end - lasts[robot], expected[-1])
                lasts[robot] = end
                like += one == other
            self.assertEqual(bounds(floor, plan), tuple(expected))
        self.assertGreater(like, 10)

    def test_bounds_by_hand(self):
        self.assertEqual(bounds(TWO_ROWS, plan_of(TWO_ROWS, TWO)), (8, 6))
        self.assertEqual(bounds(TWO_ROWS, plan_of(TWO_ROWS, [])), ())
        # the first way is through the other's home, which is not open
        floor = Floor(("HHS", "..."))
        plan = plan_of(floor, [("out", 1), ("orders", ((0, 0),))])
        self.assertEqual(bounds(floor, plan), (4 + 4 + 2,))
        self.assertEqual(bounds(floor, plan_of(floor, [("orders", ((0, 0),))])), (1 + 1 + 2,))

    def test_answers_are_new(self):
        plan = Plan((((0, 0), (1, 1), (4, 2)), ((0, 3),)), ())
        first, second = rests(plan, 0), rests(plan, 0)
        self.assertIsNot(first, second)
        first.clear()
        self.assertEqual(rests(plan, 0), second)


if __name__ == "__main__":
    unittest.main()

"""[3.1]: is_plan, of plans and of plans with one thing otherwise."""

import random
import unittest

from allbrought.floors import Floor, homes
from allbrought.plans import is_plan, plan_of
from allbrought.tracks import Plan
from tests import slow
from tests.things import GOOD_FLOORS, ONE, TWO, TWO_ROWS, odd_things

FAR_TICK = 10 ** 19


def replaced(row, at, thing):
    return row[:at] + (thing,) + row[at + 1:]


def otherwise(chance, plan):
    """The plan with one thing otherwise."""
    tracks, jobs = plan.tracks, plan.jobs
    kind = chance.randrange(9)
    robot = chance.randrange(len(tracks))
    track = tracks[robot]
    at = chance.randrange(len(track))
    tick, cell = track[at]
    if kind == 0:
        track = replaced(track, at, (tick + chance.choice([-1, 1]), cell))
    elif kind == 1:
        track = replaced(track, at, (tick, cell + chance.choice([-1, 1])))
    elif kind == 2:
        track = track[:at] + track[at + 1:]
    elif kind == 3:
        track = track[:at] + tuple((tick + 1, cell) for tick, cell in track[at:])
    elif kind == 4:
        track = track + ((track[-1][0] + chance.choice([1, 2]), chance.randrange(6)),)
    elif kind == 5 and jobs:
        number = chance.randrange(len(jobs))
        part = chance.randrange(4)
        jobs = replaced(jobs, number, replaced(jobs[number], part, jobs[number][part] + chance.choice([-1, 1])))
    elif kind == 6 and jobs:
        number = chance.randrange(len(jobs))
        jobs = jobs[:number] + jobs[number + 1:]
    elif kind == 7 and jobs:
        jobs = jobs + (chance.choice(jobs),)
    elif len(jobs) > 1:
        number = chance.randrange(len(jobs) - 1)
        jobs = jobs[:number] + (jobs[number + 1], jobs[number]) + jobs[number + 2:]
    return Plan(replaced(tracks, robot, track), jobs)


def later(plan, robot, number, ticks):
    """The plan, but all that a robot does from a pair of its track on so many ticks later."""
    start = plan.tracks[robot][number][0]
    track = tuple((tick + ticks if tick >= start else tick, cell) for tick, cell in plan.tracks[robot])
    jobs = tuple(
        (who,) + tuple(tick + ticks if tick >= start else tick for tick in ticks_of) if who == robot else (who, *ticks_of)
        for who, *ticks_of in plan.jobs
    )
    return Plan(replaced(plan.tracks, robot, track), jobs)


class Judge(unittest.TestCase):
    def check(self, floor, entries, thing, expected):
        for told in (list(entries), tuple(entries)):
            self.assertIs(is_plan(floor, told, thing), expected)

    def test_plain_plans_are_plans(self):
        chance = random.Random(31)
        floors = GOOD_FLOORS + [slow.good_floor(chance, 5, 6) for _ in range(30)]
        for floor in floors:
            entries = slow.random_entries(chance, floor, 8)
            for many in range(len(entries) + 1):
                self.check(floor, entries[:many], plan_of(floor, entries[:many]), True)

    def test_against_the_words(self):
        chance = random.Random(32)
        counts = {True: 0, False: 0}
        for _ in range(150):
            floor = slow.good_floor(chance, 3, 4)
            entries = slow.random_entries(chance, floor, chance.randint(0, 4))
            plan = plan_of(floor, entries)
            for _ in range(12):
                thing = otherwise(chance, plan)
                expected = slow.judged(floor, entries, thing)
                counts[expected] += thing != plan
                self.check(floor, entries, thing, expected)
        self.assertGreater(counts[False], 800)
        self.assertGreater(counts[True], 0)

    def test_slower_robots(self):
        chance = random.Random(33)
        counts = {True: 0, False: 0}
        for _ in range(150):
            floor = slow.good_floor(chance, 3, 4)
            entries = slow.random_entries(chance, floor, 3)
            plan = plan_of(floor, entries)
            robot = chance.randrange(len(homes(floor)))
            if len(plan.tracks[robot]) > 1:
                for number in range(1, len(plan.tracks[robot])):
                    thing = later(plan, robot, number, chance.randint(1, 4))
                    expected = slow.judged(floor, entries, thing)
                    counts[expected] += 1
                    self.check(floor, entries, thing, expected)
        self.assertGreater(min(counts.values()), 50)

    def test_far_ticks(self):
        plan = plan_of(TWO_ROWS, TWO)
        self.check(TWO_ROWS, TWO, later(plan, 1, 1, FAR_TICK), True)
        self.check(TWO_ROWS, TWO, later(plan, 1, 3, FAR_TICK), True)
        self.check(TWO_ROWS, TWO, later(plan, 0, 1, FAR_TICK), False)
        self.check(TWO_ROWS, TWO, later(plan, 0, 6, 2), True)

    def test_another_plan_of_another_robot(self):
        tracks = (((0, 0),), ((0, 3), (1, 4), (2, 1), (3, 2), (5, 5), (7, 4), (8, 3)))
        self.check(TWO_ROWS, ONE, Plan(tracks, ((1, 3, 5, 8),)), True)
        self.check(TWO_ROWS, [("out", 1)] + ONE, Plan(tracks, ((1, 3, 5, 8),)), False)
        self.check(TWO_ROWS, [("out", 0)] + ONE, Plan(tracks, ((1, 3, 5, 8),)), True)
        self.check(TWO_ROWS, ONE + [("out", 1)], Plan(tracks, ((1, 3, 5, 8),)), True)
        self.check(TWO_ROWS, [("out", 1), ("in", 1)] + ONE, Plan(tracks, ((1, 3, 5, 8),)), True)

    def test_ways_by_home_and_early_visits(self):
        floor = Floor(("H.SS",))
        order = [("orders", ((0, 1),))]
        home_first = ((0, 0), (1, 1), (2, 0), (3, 1), (4, 2), (6, 3), (8, 2), (9, 1), (10, 0))
        self.check(floor, order, Plan((home_first,), ((0, 4, 6, 10),)), True)
        put_late = ((0, 0), (1, 1), (2, 2), (4, 1), (5, 0), (6, 1), (7, 2), (8, 3), (10, 2), (11, 1), (12, 0))
        self.check(floor, order, Plan((put_late,), ((0, 2, 8, 12),)), True)
        on_beyond_home = put_late + ((13, 1), (14, 0))
        self.check(floor, order, Plan((on_beyond_home,), ((0, 2, 8, 12),)), False)
        self.check(floor, order, Plan((on_beyond_home,), ((0, 2, 8, 14),)), False)
        no_stop = ((0, 0), (1, 1), (2, 2), (3, 3), (4, 2), (6, 3), (8, 2), (9, 1), (10, 0))
        self.check(floor, order, Plan((no_stop,), ((0, 4, 6, 10),)), True)
        self.check(floor, order, Plan((no_stop,), ((0, 2, 6, 10),)), False)
        self.check(floor, order, Plan((((0, 0), (1, 1), (2, 2), (4, 3)),), ((0, 2, 4, 8),)), False)

    def test_like_stations(self):
        floor = Floor(("HS",))
        order = [("orders", ((0, 0),))]
        self.check(floor, order, plan_of(floor, order), True)
        self.assertEqual(plan_of(floor, order), Plan((((0, 0), (1, 1), (4, 0)),), ((0, 1, 2, 4),)))
        twice = Plan((((0, 0), (1, 1), (3, 0), (4, 1), (6, 0)),), ((0, 1, 4, 6),))
        self.check(floor, order, twice, True)
        self.check(floor, order, Plan((((0, 0), (1, 1), (3, 0)),), ((0, 1, 2, 3),)), False)
        self.check(floor, order, Plan((((0, 0), (1, 1), (5, 0)),), ((0, 1, 2, 5),)), True)

    def test_later_entries_go_behind(self):
        floor = Floor(("HSH",))
        two = [("orders", ((0, 0),)), ("orders", ((0, 0),))]
        one = [("orders", ((0, 0), (0, 0)))]
        tracks = (((0, 0), (1, 1), (4, 0)), ((0, 2), (5, 1), (8, 2)))
        jobs = ((0, 1, 2, 4), (1, 5, 6, 8))
        self.check(floor, two, Plan(tracks, jobs), True)
        self.check(floor, one, Plan(tracks, jobs), True)
        self.check(floor, two, Plan(tracks, jobs[::-1]), False)
        self.check(floor, one, Plan(tracks, jobs[::-1]), True)
        # two ticks between them are enough, one is not
        tracks = (tracks[0], ((0, 2), (4, 1), (7, 2)))
        self.check(floor, two, Plan(tracks, ((0, 1, 2, 4), (1, 4, 5, 7))), False)

    def test_later_entries_go_behind_each_other_robot(self):
        floor = Floor(("#H#", "HSH", "#H#"))
        entries = [("orders", ((0, 0), (0, 0))), ("orders", ((0, 0),))]
        tracks = (((0, 0),), ((0, 1), (1, 2), (4, 1)), ((0, 3), (5, 2), (8, 3)), ((0, 4), (9, 2), (12, 4)))
        ticks = {1: (1, 2, 4), 2: (5, 6, 8), 3: (9, 10, 12)}
        for robots, expected in [
            ((1, 2, 3), True), ((2, 1, 3), True), ((1, 3, 2), False), ((3, 1, 2), False), ((2, 3, 1), False),
            ((3, 2, 1), False),
        ]:
            jobs = tuple((robot,) + ticks[robot] for robot in robots)
            thing = Plan(tracks, jobs)
            self.assertIs(slow.judged(floor, entries, thing), expected)
            self.check(floor, entries, thing, expected)

    def test_kinds(self):
        plan = plan_of(TWO_ROWS, TWO)
        things = [
            Plan(list(plan.tracks), plan.jobs), Plan(plan.tracks, list(plan.jobs)), Plan(plan.tracks, None),
            Plan(None, plan.jobs), Plan(plan.jobs, plan.tracks), Plan((), ()), Plan(plan.tracks, ()),
            Plan(plan.tracks[:1], plan.jobs), Plan(plan.tracks + plan.tracks[:1], plan.jobs),
            Plan(plan.tracks, (plan.jobs[0], list(plan.jobs[1]))), Plan(plan.tracks, (plan.jobs[0], plan.jobs[1][:3])),
            Plan(plan.tracks, (plan.jobs[0], (True,) + plan.jobs[1][1:])),
            Plan(plan.tracks, ((False,) + plan.jobs[0][1:], plan.jobs[1])),
            Plan(plan.tracks, (plan.jobs[0], (-1,) + plan.jobs[1][1:])),
            Plan(plan.tracks, (plan.jobs[0], (2,) + plan.jobs[1][1:])),
            Plan(plan.tracks, (plan.jobs[0], ("1",) + plan.jobs[1][1:])),
            Plan(plan.tracks, (plan.jobs[0], plan.jobs[1] + (0,))),
            Plan((((0, 0), (True, 1)) + plan.tracks[0][2:], plan.tracks[1]), plan.jobs),
            Plan((((0, 0), (1, True)) + plan.tracks[0][2:], plan.tracks[1]), plan.jobs),
            Plan((list(plan.tracks[0]), plan.tracks[1]), plan.jobs), (plan.tracks, plan.jobs), TWO_ROWS,
        ]
        for thing in things:
            self.check(TWO_ROWS, TWO, thing, False)
        self.check(TWO_ROWS, TWO, Plan(plan.tracks, plan.jobs), True)

    def test_odd_things_everywhere(self):
        plan = plan_of(TWO_ROWS, TWO)
        for odd in odd_things():
            self.check(TWO_ROWS, TWO, odd, False)
            self.check(TWO_ROWS, TWO, Plan(odd, odd), False)
            self.check(TWO_ROWS, TWO, Plan(plan.tracks, odd), False)
            self.check(TWO_ROWS, TWO, Plan(plan.tracks, (plan.jobs[0], odd)), False)
            for part in range(4):
                job = replaced(plan.jobs[1], part, odd)
                self.check(TWO_ROWS, TWO, Plan(plan.tracks, (plan.jobs[0], job)), False)
            self.check(TWO_ROWS, TWO, Plan((plan.tracks[0], odd), plan.jobs), False)
            for at in range(len(plan.tracks[1])):
                self.check(TWO_ROWS, TWO, Plan(replaced(plan.tracks, 1, replaced(plan.tracks[1], at, odd)), plan.jobs), False)
                for part in range(2):
                    pair = replaced(plan.tracks[1][at], part, odd)
                    track = replaced(plan.tracks[1], at, pair)
                    self.check(TWO_ROWS, TWO, Plan((plan.tracks[0], track), plan.jobs), False)

    def test_of_other_entries(self):
        plan = plan_of(TWO_ROWS, TWO)
        for entries in [(), ONE, TWO[::-1], TWO + ONE, ONE + ONE, [("orders", ((0, 0),))] + TWO[1:]]:
            self.check(TWO_ROWS, entries, plan, False)
        self.check(TWO_ROWS, [("out", 1), ("in", 1)] + TWO + [("out", 0)], plan, True)
        self.check(TWO_ROWS, [("out", 1)] + TWO, plan, False)
        self.check(TWO_ROWS, (), plan_of(TWO_ROWS, ()), True)


if __name__ == "__main__":
    unittest.main()

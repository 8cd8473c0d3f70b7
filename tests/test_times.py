"""[4.4]: when steps end, the whole time, critical steps and slack."""

import random
import unittest

from allbrought.errors import NoStep, NoTimes
from allbrought.floors import Floor
from allbrought.plans import plan_of
from allbrought.steps import steps
from allbrought.times import critical, ends, slack, whole_time
from tests import slow
from tests.things import GOOD_FLOORS, TWO, TWO_ROWS, odd_things, sample_plans


def samples():
    """Plans, what their steps hang on, and times: all alike, unlike, the least and the greatest."""
    chance = random.Random(91)
    made = [(floor, slow.random_entries(chance, floor, 4)) for floor in GOOD_FLOORS[:7]]
    for floor, entries in sample_plans() + made:
        plan = plan_of(floor, entries)
        hung = slow.hangings(plan)
        for choices in ([1], [7], [1000], [1, 1000], list(range(1, 10)), [1, 2, 500, 999, 1000]):
            rows = [slow.steps_of(plan, robot) for robot in range(len(plan.tracks))]
            yield plan, hung, tuple(tuple(chance.choice(choices) for _ in row) for row in rows)


def by_names(times):
    return {(robot, number): time for robot, row in enumerate(times) for number, time in enumerate(row)}


def slow_whole(hung, named):
    return max(slow.ends_of(hung, named).values(), default=0)


class Times(unittest.TestCase):
    def test_ends_and_whole_time(self):
        for plan, hung, times in samples():
            expected = slow.ends_of(hung, by_names(times))
            found = ends(plan, times)
            self.assertEqual(by_names(found), expected)
            self.assertEqual([len(row) for row in found], [len(row) for row in times])
            self.assertEqual({type(row) for row in found} | {type(found)}, {tuple})
            self.assertEqual(whole_time(plan, times), max(expected.values(), default=0))

    def test_by_hand(self):
        plan = plan_of(TWO_ROWS, TWO)
        times = ((1,) * 8, (1,) * 6)
        # robot 1 goes into cell 5 when robot 0 has left it, by its step 5
        self.assertEqual(ends(plan, times), ((1, 2, 3, 4, 5, 6, 7, 8), (1, 7, 8, 9, 10, 11)))
        self.assertEqual(whole_time(plan, times), 11)
        times = ((1,) * 8, (20,) + (1,) * 5)
        self.assertEqual(ends(plan, times)[1], (20, 21, 22, 23, 24, 25))
        self.assertEqual(slack(plan, times, (0, 5)), 14)
        self.assertEqual(slack(plan, times, (0, 7)), 17)
        self.assertEqual(slack(plan, times, (1, 0)), 0)

    def test_critical(self):
        for plan, hung, times in samples():
            found = critical(plan, times)
            named = by_names(times)
            self.assertIsInstance(found, tuple)
            self.assertEqual(sum(named[name] for name in found), slow_whole(hung, named))
            if found:
                self.assertEqual(hung[found[0]], ())
            else:
                self.assertEqual(hung, {})
            for one, other in zip(found, found[1:]):
                self.assertIn(one, hung[other])

    def test_slack(self):
        wide = 0
        for plan, hung, times in samples():
            named = by_names(times)
            whole = slow_whole(hung, named)
            for name in sorted(hung)[::1 + len(hung) // 15]:
                found = slack(plan, times, name)
                self.assertGreaterEqual(found, 0)
                self.assertEqual(slow_whole(hung, {**named, name: named[name] + found}), whole)
                self.assertEqual(slow_whole(hung, {**named, name: named[name] + found + 1}), whole + 1)
                wide += named[name] + found > 1000
            for name in critical(plan, times):
                self.assertEqual(slack(plan, times, name), 0)
        self.assertGreater(wide, 20)

    def test_longer_times_end_nothing_sooner(self):
        for plan, _, times in samples():
            longer = tuple(tuple(min(1000, time + 3) for time in row) for row in times)
            for row, its_row in zip(ends(plan, times), ends(plan, longer)):
                for one, other in zip(row, its_row):
                    self.assertLessEqual(one, other)

    def test_without_steps(self):
        for floor in (Floor(("H",)), TWO_ROWS):
            plan = plan_of(floor, ())
            times = ((),) * len(plan.tracks)
            self.assertEqual(ends(plan, times), times)
            self.assertEqual((whole_time(plan, times), critical(plan, times)), (0, ()))
            with self.assertRaises(NoStep):
                slack(plan, times, (0, 0))

    def test_no_times_then_no_step(self):
        plan = plan_of(TWO_ROWS, TWO)
        one, other = (1,) * 8, (1,) * 6
        bad = odd_things() + [
            (), (one,), (one, other, ()), [one, other], (list(one), other), (one, list(other)), (one[1:], other),
            (one + (1,), other), (other, one), (one, other[1:]), (one, ()), (one, None), (None, other), (one, 6),
            {0: one, 1: other}, ("11111111", other),
        ] + [
            (one[:3] + (time,) + one[4:], other)
            for time in odd_things() + [0, -1, 1001, True, None, "1", (1,)]
        ] + [(one, thing) for thing in odd_things()]
        for thing in bad:
            for call in (ends, whole_time, critical):
                with self.assertRaises(NoTimes):
                    call(plan, thing)
            for step in ((0, 0), (0, 8), None):
                with self.assertRaises(NoTimes):
                    slack(plan, thing, step)
        beyond = [(0, 8), (1, 6), (2, 0), (-1, 0), (0, -1), [0, 0], (True, 0), (0, False), (0,), (0, 0, 0)]
        for thing in beyond + odd_things():
            with self.assertRaises(NoStep):
                slack(plan, (one, other), thing)
        self.assertEqual(len(steps(plan, 0)), 8)


if __name__ == "__main__":
    unittest.main()

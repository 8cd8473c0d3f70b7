"""[4.1], [4.3]: steps, what they hang on, which are ahead of which, and chains."""

import random
import unittest

from allbrought.errors import NoRobot, NoStep
from allbrought.plans import plan_of
from allbrought.steps import chain, hangings, hangs_on, is_before, steps
from tests import slow
from tests.things import GOOD_FLOORS, TWO, TWO_ROWS, odd_things, sample_plans


def samples():
    chance = random.Random(71)
    made = [(floor, slow.random_entries(chance, floor, 5)) for floor in GOOD_FLOORS[:8]]
    return [(floor, entries, plan_of(floor, entries)) for floor, entries in sample_plans() + made]


def no_steps(plan):
    """Things that name no steps, among them those right behind the last ones."""
    robots = len(plan.tracks)
    beyond = [(robot, len(slow.steps_of(plan, robot))) for robot in range(robots)] + [(robots, 0), (-1, 0), (0, -1)]
    return beyond + [[0, 0], (0,), (0, 0, 0), (False, 0), (0, False), ("0", 0), ("go", 1, 0, 1), 0] + odd_things()


def all_ahead(hung, name):
    """All steps on which one hangs, perhaps through others."""
    found = set(hung[name])
    while True:
        more = found | {other for step in found for other in hung[step]}
        if more == found:
            return found
        found = more


class Steps(unittest.TestCase):
    def test_of_each_robot(self):
        kinds = set()
        for _, _, plan in samples():
            for robot in range(len(plan.tracks)):
                found = steps(plan, robot)
                self.assertIsInstance(found, tuple)
                self.assertEqual(found, slow.steps_of(plan, robot))
                kinds |= {len(found) == 0, len(found) > 20}
        self.assertEqual(kinds, {True, False})

    def test_of_a_robot_without_any(self):
        plan = plan_of(TWO_ROWS, [("out", 0)] + TWO)
        self.assertEqual(steps(plan, 0), ())
        self.assertEqual(len(steps(plan, 1)), 14)

    def test_of_like_stations(self):
        floor = sample_plans()[5][0]
        plan = plan_of(floor, [("orders", ((0, 0), (0, 0)))])
        self.assertEqual(steps(plan, 0), (
            ("go", 1, 0, 1), ("take", 2, 0), ("put", 3, 0), ("go", 4, 1, 0),
            ("go", 5, 0, 1), ("take", 6, 1), ("put", 7, 1), ("go", 8, 1, 0),
        ))

    def test_no_robot(self):
        plan = plan_of(TWO_ROWS, TWO)
        for thing in odd_things() + [2, (0,)]:
            with self.assertRaises(NoRobot):
                steps(plan, thing)

    def test_what_steps_hang_on(self):
        several = 0
        for _, _, plan in samples():
            expected = slow.hangings(plan)
            found = hangings(plan)
            self.assertIsInstance(found, dict)
            self.assertEqual(found, expected)
            for name in expected:
                self.assertEqual(hangs_on(plan, name), expected[name])
                self.assertIsInstance(hangs_on(plan, name), tuple)
                several += len(expected[name]) == 2
            again = hangings(plan)
            self.assertIsNot(again, found)
            found.clear()
            self.assertEqual(hangings(plan), again)
        self.assertGreater(several, 100)

    def test_by_hand(self):
        plan = plan_of(TWO_ROWS, TWO)
        self.assertEqual(hangs_on(plan, (0, 0)), ())
        self.assertEqual(hangs_on(plan, (0, 5)), ((0, 4),))
        self.assertEqual(hangs_on(plan, (1, 0)), ())
        self.assertEqual(hangs_on(plan, (1, 1)), ((0, 5), (1, 0)))
        self.assertEqual(hangs_on(plan, (1, 2)), ((1, 1),))

    def test_the_fact_of_hanging(self):
        for floor, entries, plan in samples():
            rows = [steps(plan, robot) for robot in range(len(plan.tracks))]
            found = hangings(plan)
            for (robot, number), names in found.items():
                for other, its_number in names:
                    self.assertLess(rows[other][its_number][1], rows[robot][number][1])
            for many in range(len(entries)):
                part = plan_of(floor, entries[:many])
                for robot, row in enumerate(rows):
                    self.assertEqual(steps(part, robot), row[:len(steps(part, robot))])
                for name, names in hangings(part).items():
                    self.assertEqual(found[name], names)

    def test_no_step(self):
        for plan in (plan_of(TWO_ROWS, TWO), plan_of(TWO_ROWS, ())):
            for thing in no_steps(plan):
                with self.assertRaises(NoStep):
                    hangs_on(plan, thing)
                with self.assertRaises(NoStep):
                    chain(plan, thing)
                with self.assertRaises(NoStep):
                    is_before(plan, thing, thing)
        plan = plan_of(TWO_ROWS, TWO)
        for thing in no_steps(plan):
            with self.assertRaises(NoStep):
                is_before(plan, thing, (0, 0))
            with self.assertRaises(NoStep):
                is_before(plan, (0, 0), thing)

    def test_is_before(self):
        for _, _, plan in samples():
            hung = slow.hangings(plan)
            if len(hung) <= 70:
                for other in hung:
                    ahead = all_ahead(hung, other)
                    self.assertNotIn(other, ahead)
                    for one in hung:
                        self.assertIs(is_before(plan, one, other), one in ahead)

    def test_is_before_whatever_comes(self):
        plan = plan_of(TWO_ROWS, TWO)
        self.assertIs(is_before(plan, (0, 5), (1, 1)), True)
        self.assertIs(is_before(plan, (0, 0), (1, 4)), True)
        self.assertIs(is_before(plan, (0, 6), (1, 4)), False)
        self.assertIs(is_before(plan, (1, 1), (0, 5)), False)
        self.assertIs(is_before(plan, (0, 5), (0, 5)), False)
        self.assertIs(is_before(plan, (1, 0), (0, 7)), False)

    def test_chains_are_longest_ones(self):
        for _, _, plan in samples():
            hung = slow.hangings(plan)
            lengths = slow.ends_of(hung, {name: 1 for name in hung})
            for name in hung:
                found = chain(plan, name)
                self.assertIsInstance(found, tuple)
                self.assertEqual(len(found), lengths[name])
                self.assertEqual(found[-1], name)
                self.assertEqual(hung[found[0]], ())
                for one, other in zip(found, found[1:]):
                    self.assertIn(one, hung[other])


if __name__ == "__main__":
    unittest.main()

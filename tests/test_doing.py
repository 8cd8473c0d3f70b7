"""[4.2], [4.3]: what is done, what may be done, what robots hold, and THE MIDDLE."""

import random
import unittest
from itertools import combinations, product

from allbrought.doing import cells_of, finish, held, is_closed, is_over, led, loads_of, may_do
from allbrought.errors import NotAmid, NotClosed, TooEarly
from allbrought.plans import plan_of
from allbrought.steps import steps
from tests import slow
from tests.things import GOOD_FLOORS, TWO, TWO_ROWS, odd_things, sample_plans


def samples():
    chance = random.Random(81)
    made = [(floor, slow.random_entries(chance, floor, 4)) for floor in GOOD_FLOORS[:8]]
    return [(floor, plan_of(floor, entries)) for floor, entries in sample_plans() + made]


def walks():
    """Plans, with what may be done with them from nothing to all, step by step in chance orders."""
    chance = random.Random(82)
    for floor, plan in samples():
        hung = slow.hangings(plan)
        for done in slow.walk(chance, plan, hung):
            yield floor, plan, hung, done


def rows_of(plan):
    return [slow.steps_of(plan, robot) for robot in range(len(plan.tracks))]


def not_closed():
    """Things that are not closed for the plan of TWO: robot 0 has 8 steps, robot 1 has 6."""
    return odd_things() + [
        (0, 2), (5, 2), (3, 6), (9, 0), (8, 7), (10 ** 20 - 1, 0), (0,), (0, 0, 0), (), (-1, 0), (0, -1), [0, 0],
        (True, 0), (0, False), (0, None), ("0", 0), ((0,), 0), (8, True), 0, "00", {0: 0, 1: 0}, range(2),
    ]


class Closed(unittest.TestCase):
    def test_each_tuple_of_small_plans(self):
        counts = {True: 0, False: 0}
        for _, plan in samples():
            rows = rows_of(plan)
            if len(rows) <= 3 and sum(map(len, rows)) <= 40:
                hung = slow.hangings(plan)
                for done in product(*[range(len(row) + 2) for row in rows]):
                    expected = all(many <= len(row) for many, row in zip(done, rows)) and slow.is_closed(hung, done)
                    self.assertIs(is_closed(plan, done), expected)
                    counts[expected] += 1
        self.assertGreater(min(counts.values()), 500)

    def test_walks_are_closed(self):
        for _, plan, _, done in walks():
            self.assertIs(is_closed(plan, done), True)

    def test_odd_things(self):
        plan = plan_of(TWO_ROWS, TWO)
        self.assertEqual([len(row) for row in rows_of(plan)], [8, 6])
        self.assertIs(is_closed(plan, (0, 0)), True)
        self.assertIs(is_closed(plan, (6, 2)), True)
        self.assertIs(is_closed(plan, (8, 6)), True)
        for thing in not_closed():
            self.assertIs(is_closed(plan, thing), False)

    def test_not_closed_everywhere(self):
        plan = plan_of(TWO_ROWS, TWO)
        for thing in not_closed():
            for call in (
                lambda: may_do(plan, thing), lambda: cells_of(plan, thing), lambda: loads_of(plan, thing),
                lambda: held(plan, thing, ()), lambda: held(plan, thing, None), lambda: is_over(plan, thing),
                lambda: led(plan, thing, ()), lambda: led(plan, thing, None), lambda: finish(plan, thing),
            ):
                with self.assertRaises(NotClosed):
                    call()


class Doing(unittest.TestCase):
    def test_may_do(self):
        for _, plan, hung, done in walks():
            expected = tuple(
                robot for robot, many in enumerate(done)
                if (robot, many) in hung and all(done[other] > number for other, number in hung[(robot, many)])
            )
            self.assertEqual(may_do(plan, done), expected)
            self.assertIsInstance(may_do(plan, done), tuple)

    def test_cells_and_loads(self):
        loaded = 0
        for _, plan, _, done in walks():
            rows = rows_of(plan)
            cells, loads = cells_of(plan, done), loads_of(plan, done)
            for robot, many in enumerate(done):
                gos = [step for step in rows[robot][:many] if step[0] == "go"]
                self.assertEqual(cells[robot], gos[-1][3] if gos else plan.tracks[robot][0][1])
                taken = [step[2] for step in rows[robot][:many] if step[0] == "take"]
                put = [step[2] for step in rows[robot][:many] if step[0] == "put"]
                self.assertEqual(loads[robot], next((order for order in taken if order not in put), None))
                loaded += loads[robot] is not None
            self.assertEqual((type(cells), type(loads)), (tuple, tuple))
        self.assertGreater(loaded, 100)

    def test_at_first_and_at_last(self):
        for floor, plan in samples():
            homes = tuple(slow.cells_with(floor, "H"))
            first = (0,) * len(homes)
            last = tuple(map(len, rows_of(plan)))
            for done in (first, last):
                self.assertEqual(cells_of(plan, done), homes)
                self.assertEqual(loads_of(plan, done), (None,) * len(homes))
                self.assertEqual(held(plan, done, ()), tuple((home,) for home in homes))
                self.assertIs(is_over(plan, done), done == last)
            self.assertEqual(may_do(plan, last), ())

    def test_held(self):
        for _, plan, _, done in walks():
            ready, cells, rows = may_do(plan, done), cells_of(plan, done), rows_of(plan)
            for many in range(len(ready) + 1):
                for amid in combinations(ready, many):
                    found = held(plan, done, amid)
                    for robot, lot in enumerate(found):
                        step = rows[robot][done[robot]] if robot in amid else ("none",)
                        expected = {cells[robot]} | (set(step[2:]) if step[0] == "go" else set())
                        self.assertEqual(lot, tuple(sorted(expected)))

    def test_the_middle(self):
        for _, plan, hung, done in walks():
            ready = may_do(plan, done)
            found = [cell for lot in held(plan, done, ready) for cell in lot]
            self.assertEqual(len(found), len(set(found)))
            left = [
                (steps(plan, robot)[number][1], robot)
                for robot, number in hung if number >= done[robot]
            ]
            self.assertIs(is_over(plan, done), left == [])
            if left:
                self.assertIn(min(left)[1], ready)

    def test_the_middle_with_each_robot_by_its_own_beginning(self):
        chance = random.Random(83)
        for floor in GOOD_FLOORS[1:8]:
            entries = slow.random_entries(chance, floor, 6)
            plan = plan_of(floor, entries)
            parts = [plan_of(floor, entries[:chance.randint(0, 6)]) for _ in plan.tracks]
            limits = [len(steps(part, robot)) for robot, part in enumerate(parts)]
            done = tuple([0] * len(limits))
            while True:
                ready = tuple(robot for robot in may_do(plan, done) if done[robot] < limits[robot])
                found = [cell for lot in held(plan, done, ready) for cell in lot]
                self.assertEqual(len(found), len(set(found)))
                if not ready:
                    break
                done = led(plan, done, [chance.choice(ready)])

    def test_not_amid(self):
        plan = plan_of(TWO_ROWS, TWO)
        # robot 1 waits for robot 0 at (2, 1)
        self.assertEqual((may_do(plan, (0, 0)), may_do(plan, (2, 1)), may_do(plan, (8, 6))), ((0, 1), (0,), ()))
        for thing in odd_things() + [(1, 0), (0, 0), (2,), [0], [], 0, (0, 1, 2), (False, 1), (0, True), ("0",)]:
            if thing != ():
                with self.assertRaises(NotAmid):
                    held(plan, (0, 0), thing)
        for thing in [(1,), (0, 1)]:
            with self.assertRaises(NotAmid):
                held(plan, (2, 1), thing)
            with self.assertRaises(NotAmid):
                held(plan, (8, 6), thing)
        self.assertEqual(held(plan, (2, 1), (0,)), ((2,), (4,)))
        self.assertEqual(held(plan, (3, 1), (0,)), ((2, 5), (4,)))


class Led(unittest.TestCase):
    def test_led(self):
        for _, plan, _, done in walks():
            for kind in (list, tuple):
                self.assertEqual(led(plan, done, kind()), done)
                for robot in may_do(plan, done):
                    then = tuple(many + (number == robot) for number, many in enumerate(done))
                    self.assertEqual(led(plan, done, kind([robot])), then)
                    self.assertIs(is_closed(plan, led(plan, done, kind([robot]))), True)

    def test_finish(self):
        for _, plan, _, done in walks():
            robots = finish(plan, done)
            self.assertIsInstance(robots, tuple)
            then = led(plan, done, robots)
            self.assertIs(is_over(plan, then), True)
            self.assertEqual(led(plan, done, list(robots)), then)
            self.assertEqual(len(robots), sum(then) - sum(done))
        for _, plan in samples():
            self.assertEqual(finish(plan, tuple(map(len, rows_of(plan)))), ())

    def early(self, plan, done, robots):
        with self.assertRaises(TooEarly) as found:
            led(plan, done, robots)
        return found.exception.index

    def test_too_early(self):
        plan = plan_of(TWO_ROWS, TWO)
        for kind in (list, tuple):
            self.assertEqual(self.early(plan, (0, 0), kind([1, 1])), 1)
            self.assertEqual(self.early(plan, (0, 0), kind([1, 0, 0, 0, 0, 0, 1, 0, 0, 1])), 6)
            self.assertEqual(led(plan, (0, 0), kind([1, 0, 0, 0, 0, 0, 0, 1, 0])), (7, 2))
            self.assertEqual(self.early(plan, (8, 6), kind([0])), 0)
            self.assertEqual(self.early(plan, (0, 0), kind([0] * 9)), 8)
            self.assertEqual(self.early(plan, (0, 0), kind([0, 2])), 1)
            for thing in odd_things():
                self.assertEqual(self.early(plan, (0, 0), kind([0, 1, thing, None])), 2)

    def test_no_list_or_tuple(self):
        plan = plan_of(TWO_ROWS, TWO)
        for thing in odd_things() + [0, "", {}, {0: 0}, range(0), b""]:
            if not isinstance(thing, (list, tuple)):
                self.assertEqual(self.early(plan, (0, 0), thing), -1)


if __name__ == "__main__":
    unittest.main()

"""[0.4]: nothing that is passed is changed, what is told anew is equal, and lists and dicts are new."""

import copy
import random
import unittest

from allbrought import floors, plans, tracks
from allbrought.errors import FloorError
from allbrought.floors import Floor
from tests import slow
from tests.things import TWO, TWO_ROWS, odd_things

BARRED = Floor(("HHS", "..#"))
# their last argument is always of the right kind
TRUSTING = [floors.cells, floors.homes, floors.stations, floors.barred, tracks.last_tick, plans.plan_of]


def calls():
    """Functions, each with a list of right arguments of its own."""
    plan = plans.plan_of(TWO_ROWS, TWO)
    return [
        (floors.Floor, [("H.S", "H.S")]), (floors.cells, [TWO_ROWS]), (floors.neighbours, [TWO_ROWS, 1]),
        (floors.homes, [TWO_ROWS]), (floors.stations, [TWO_ROWS]), (floors.way, [TWO_ROWS, 0, 1]),
        (floors.barring, [BARRED, 0, 0]), (floors.is_barring, [BARRED, 0, 0, (1,)]),
        (floors.is_well_formed, [TWO_ROWS]), (floors.barred, [BARRED]), (floors.far, [TWO_ROWS, 0, 0, 5]),
        (tracks.Plan, [plan.tracks, plan.jobs]), (tracks.where, [plan, 5]), (tracks.last_tick, [plan]),
        (tracks.first_clash, [TWO_ROWS, plan.tracks]), (tracks.stretches, [plan, 2, 1]),
        (plans.is_plan, [TWO_ROWS, list(TWO), plan]), (plans.best_path, [TWO_ROWS, list(TWO), 1, (0, 1)]),
        (plans.plan_of, [TWO_ROWS, list(TWO)]),
    ]


class Rules(unittest.TestCase):
    def test_arguments_stay_and_answers_are_equal_and_new(self):
        for call, arguments in calls():
            kept = copy.deepcopy(arguments)
            first = call(*arguments)
            second = call(*arguments)
            self.assertEqual(arguments, kept)
            self.assertEqual(first, second)
            if isinstance(first, (list, dict)):
                self.assertIsNot(first, second)
                first.clear()
                self.assertEqual(call(*arguments), second)
            self.assertEqual(call(*kept), second)

    def test_odd_arguments_stay(self):
        for call, arguments in calls():
            if call not in TRUSTING:
                for thing in odd_things():
                    told = repr(thing)
                    try:
                        call(*arguments[:-1], thing)
                    except FloorError:
                        pass
                    self.assertEqual(repr(thing), told)

    def test_lists_of_entries_stay_and_may_change_afterwards(self):
        chance = random.Random(51)
        floor = slow.good_floor(chance, 4, 4)
        entries = slow.random_entries(chance, floor, 5)
        kept = list(entries)
        plan = plans.plan_of(floor, entries)
        told = (plan.tracks, plan.jobs)
        self.assertEqual(entries, kept)
        entries.clear()
        self.assertEqual((plan.tracks, plan.jobs), told)
        self.assertEqual(plans.plan_of(floor, kept), plan)


if __name__ == "__main__":
    unittest.main()

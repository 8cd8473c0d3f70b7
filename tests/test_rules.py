"""[0.4]: nothing that is passed is changed, what is told anew is equal, and lists and dicts are new."""

import copy
import random
import unittest

from allbrought import bookrows, books, changes, doing, floors, letters, marks, measures, plans, rows, steps, times, tracks
from allbrought.errors import FloorError
from allbrought.floors import Floor
from allbrought.hosts import Host
from allbrought.robots import Robot
from tests import slow
from tests.things import TWO, TWO_ROWS, odd_things

BARRED = Floor(("HHS", "..#"))
SAYING = ("say", 1, 2, 1, (4, 1))
TIMES = ((1, 2, 3, 4, 5, 6, 7, 8), (8, 7, 6, 5, 4, 3))
# their last argument is always of the right kind
TRUSTING = [
    floors.cells, floors.homes, floors.stations, floors.barred, tracks.last_tick, plans.plan_of, steps.hangings,
    measures.passes, measures.busiest, measures.bounds,
]


def calls():
    """Functions, each with a list of right arguments of its own."""
    plan = plans.plan_of(TWO_ROWS, TWO)
    return [
        (floors.Floor, [("H.S", "H.S")]), (floors.cells, [TWO_ROWS]), (floors.neighbours, [TWO_ROWS, 1]),
        (floors.homes, [TWO_ROWS]), (floors.stations, [TWO_ROWS]), (floors.way, [TWO_ROWS, 0, 1]),
        (floors.barring, [BARRED, 0, 0]), (floors.is_barring, [BARRED, 0, 0, (1,)]),
        (floors.is_well_formed, [TWO_ROWS]), (floors.barred, [BARRED]), (floors.far, [TWO_ROWS, 0, 0, 5]),
        (tracks.Plan, [plan.tracks, plan.jobs]), (tracks.where, [plan, 5]), (tracks.last_tick, [plan]),
        (tracks.first_clash, [TWO_ROWS, plan.tracks]), (tracks.stretches, [plan, 2, 1]),
        (plans.is_plan, [TWO_ROWS, list(TWO), plan]), (plans.best_path, [TWO_ROWS, list(TWO), 1, (0, 1)]),
        (plans.plan_of, [TWO_ROWS, list(TWO)]),
        (told, [TWO_ROWS, list(TWO)]),
        (steps.steps, [plan, 0]), (steps.hangs_on, [plan, (1, 1)]), (steps.hangings, [plan]),
        (steps.is_before, [plan, (0, 0), (1, 1)]), (steps.chain, [plan, (1, 1)]),
        (doing.is_closed, [plan, (6, 2)]), (doing.is_over, [plan, (6, 2)]), (doing.may_do, [plan, (6, 2)]),
        (doing.cells_of, [plan, (6, 2)]), (doing.loads_of, [plan, (4, 0)]), (doing.held, [plan, (6, 2), (0, 1)]),
        (doing.led, [plan, (0, 0), [0, 1, 0]]), (doing.finish, [plan, (0, 0)]),
        (times.ends, [plan, TIMES]), (times.whole_time, [plan, TIMES]), (times.critical, [plan, TIMES]),
        (times.slack, [plan, TIMES, (0, 7)]),
        (measures.passes, [plan, 1]), (measures.busiest, [plan]), (measures.bounds, [TWO_ROWS, plan]),
        (measures.rests, [tracks.Plan((((0, 0), (1, 1), (4, 0)), ((0, 3),)), ()), 0]),
        (rows.whole, [300]), (rows.signed, [-300]), (rows.read_whole, [(0, 172, 2, 0), 1]),
        (rows.read_signed, [(0, 172, 2, 0), 1]), (marks.mark, [(7, 8)]), (marks.mark_behind, [9, (7, 8)]),
        (changes.changed, [(1, 2, 3), (3, 5, 9)]), (changes.change, [(1, 2, 3), (1, 9)]),
        (changes.is_change, [(1, 2, 3), (1, 9), (3, 5, 9)]),
        (bookrows.entry_row, [TWO[0]]), (bookrows.read_entry, [(9, 1, 1, 0, 1), 1]), (read_back, [TWO_ROWS, (1, 2, 1)]),
        (letters.sealed, [(1, 2)]), (letters.unsealed, [(1, 0, 0, 0)]), (letters.letter_row, [TWO_ROWS, 5, SAYING]),
        (letters.read_letter, [TWO_ROWS, 5, letters.letter_row(TWO_ROWS, 5, SAYING)]),
        (told_by_host, [TWO_ROWS, list(TWO), letters.letter_row(TWO_ROWS, 5, SAYING)]),
        (told_by_robot, [TWO_ROWS, (tuple(TWO), (3, 0), 3, True), (5, 0)]),
    ]


def told(floor, entries):
    """All that the book of some entries tells, as a list."""
    book = books.book_of(floor, entries)
    return [book.entries(), book.orders(), book.robots_in(), book.plan(), book.copy().entries()]


def read_back(floor, row):
    """The entries and the row of the book of which this is the row."""
    book = bookrows.read_book(floor, row)
    return [book.entries(), bookrows.book_row(book)]


def told_by_host(floor, entries, thing):
    """All that a host tells of the book of some entries that hears a thing, as a list."""
    host = Host(floor, 5, books.book_of(floor, entries))
    word = host.hear(thing)
    some = [host.letter(robot) for robot in host.known()]
    return [word, host.book().entries(), host.plan(), host.counts(), host.left(), host.known(), some]


def told_by_robot(floor, past, eye):
    """All that a robot tells that is made with these, as a list."""
    robot = Robot(floor, 5, 0, past, eye)
    known = [robot.book().entries(), robot.plan(), robot.past(), robot.done(), robot.counts()]
    return known + [robot.step(), robot.lacks(), robot.may(), robot.cells(), robot.load(), robot.say()]


class Rules(unittest.TestCase):
    def test_arguments_stay_and_answers_are_equal_and_new(self):
        for call, arguments in calls():
            kept = copy.deepcopy(arguments)
            first = call(*arguments)
            second = call(*arguments)
            self.assertEqual(arguments, kept)
            self.assertEqual(first, second)
            if isinstance(first, (list, dict)):
                self.assertIsNot(first, second)
                first.clear()
                self.assertEqual(call(*arguments), second)
            self.assertEqual(call(*kept), second)

    def test_odd_arguments_stay(self):
        for call, arguments in calls():
            if call not in TRUSTING:
                for thing in odd_things():
                    told = repr(thing)
                    try:
                        call(*arguments[:-1], thing)
                    except FloorError:
                        pass
                    self.assertEqual(repr(thing), told)

    def test_lists_of_entries_stay_and_may_change_afterwards(self):
        chance = random.Random(51)
        floor = slow.good_floor(chance, 4, 4)
        entries = slow.random_entries(chance, floor, 5)
        kept = list(entries)
        plan = plans.plan_of(floor, entries)
        told = (plan.tracks, plan.jobs)
        self.assertEqual(entries, kept)
        entries.clear()
        self.assertEqual((plan.tracks, plan.jobs), told)
        self.assertEqual(plans.plan_of(floor, kept), plan)


if __name__ == "__main__":
    unittest.main()

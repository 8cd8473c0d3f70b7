"""[6.3]: the mind of a robot, its past and its eye, what it hears, does and says."""

import random
import unittest

from allbrought.books import Book, book_of
from allbrought.errors import FloorError, NoEye, NoNumber, NoPast, NoRobot, NotBegun, NotWellFormed, NotYet
from allbrought.floors import Floor
from allbrought.letters import letter_row, read_letter
from allbrought.plans import plan_of
from allbrought.robots import Robot
from tests import slow, slow_rows
from tests.slow_robot import SlowRobot
from tests.things import BAD_FLOORS, GOOD_FLOORS, ONE, TWO, TWO_ROWS, no_rows, odd_things

SHORTS_NOT = odd_things() + [2 ** 32, 2 ** 64, -1, True, False, None, "0", (0,)]
NAMES = ["plan", "past", "done", "counts", "step", "lacks", "may", "cells", "load", "say"]
# robot 0 goes 0 1 2, takes, goes 5, puts, goes 2 1 0; robot 1 goes 4, then 5 behind step 5 of robot 0
PAST = ((TWO[0], TWO[1]), (3, 0), 3, False)


def told(robot):
    found = {
        "plan": robot.plan(), "past": robot.past(), "done": robot.done(), "counts": robot.counts(), "step": robot.step(),
        "lacks": robot.lacks(), "may": robot.may(), "cells": robot.cells(), "load": robot.load(), "say": robot.say(),
    }
    return found, robot.book().entries()


def tell(counts, first, entries, match=5):
    return slow_rows.letter(match, ("tell", tuple(counts), first, tuple(entries)))


def raised(floor, match, number, past, eye):
    """The class of the error."""
    try:
        Robot(floor, match, number, past, eye)
    except FloorError as error:
        return error.__class__
    return None


class New(unittest.TestCase):
    def test_new_robots(self):
        for floor in GOOD_FLOORS + [Floor(("H",))]:
            homes = slow.cells_with(floor, "H")
            for number, home in enumerate(homes):
                model = SlowRobot(floor, 9, number)
                for eye in (None, (home, None)):
                    for past in (None, ((), (0,) * len(homes), 0, False)):
                        robot = Robot(floor, 9, number, past, eye)
                        self.assertEqual(told(robot), (model.told(), []))
                        self.assertIsInstance(robot.book(), Book)
                        self.assertEqual((robot.step(), robot.lacks(), robot.may()), (None, None, False))
                        self.assertEqual(robot.cells(), (home,))

    def test_errors_in_their_order(self):
        barred = BAD_FLOORS[0][0]
        for match in SHORTS_NOT:
            self.assertIs(raised(TWO_ROWS, match, 0, None, None), NoNumber)
            self.assertIs(raised(barred, match, 9, 0, 0), NoNumber)
        for number in odd_things() + [2, 6, -1, True, False, None, "0", (0,)]:
            self.assertIs(raised(TWO_ROWS, 0, number, None, None), NoRobot)
            self.assertIs(raised(barred, 0, number, 0, 0), NoRobot)
        for floor, pair in BAD_FLOORS:
            for past, eye in [(None, None), (0, 0), (PAST, None)]:
                with self.assertRaises(NotWellFormed) as held:
                    Robot(floor, 0, 0, past, eye)
                self.assertEqual((held.exception.who, held.exception.station), pair)
        self.assertIs(raised(TWO_ROWS, 0, 0, 0, 0), NoPast)
        self.assertIs(raised(TWO_ROWS, 0, 0, None, 0), NoEye)

    def test_robots_are_equal_to_nothing_else(self):
        robot = Robot(TWO_ROWS, 5, 0, None, None)
        for thing in odd_things() + [Book(TWO_ROWS), TWO_ROWS]:
            self.assertIs(robot == thing, False)
            self.assertIs(thing == robot, False)


class Pasts(unittest.TestCase):
    def test_what_can_be_one(self):
        entries = tuple(TWO)
        for past, number in [
            (((), (0, 0), 0, False), 0), ((entries, (0, 0), 0, False), 1), ((entries, (0, 2 ** 32 - 1), 0, False), 0),
            ((entries, (2 ** 32 - 1, 6), 6, False), 1), ((entries, (8, 0), 8, False), 0), ((entries, (0, 3), 3, False), 1),
            ((entries[:1], (8, 99), 8, False), 0), ((entries + (("out", 0),), (0, 0), 0, False), 0), (PAST, 0),
        ]:
            robot = Robot(TWO_ROWS, 5, number, past, None)
            self.assertEqual(robot.past(), past)
            self.assertEqual(robot.book().entries(), list(past[0]))
            self.assertEqual(robot.plan(), plan_of(TWO_ROWS, past[0]))
            model = SlowRobot(TWO_ROWS, 5, number)
            model.entries, model.counts, model.done = list(past[0]), list(past[1]), past[2]
            self.assertEqual(told(robot)[0], model.told())

    def test_no_past(self):
        entries, counts = tuple(TWO), (3, 0)
        bad = odd_things() + [
            0, (), entries, (entries,), (entries, counts, 3), (entries, counts, 3, False, None), [entries, counts, 3, False],
            (list(entries), counts, 3, False), (entries, list(counts), 3, False), (entries, counts, 3, 0),
            (entries, counts, 3, 1), (entries, counts, 3, None), (entries, counts, "3", False), (entries, counts, None, False),
            (None, counts, 3, False), (entries, None, 3, False), (entries, (3,), 3, False), (entries, (3, 0, 0), 3, False),
            (entries, (), 3, False), (entries, (3, -1), 3, False), (entries, (3, True), 3, False), (entries, (3, None), 3, False),
            (entries, (3, 2 ** 32), 3, False), (entries, (3, "0"), 3, False),
            # its own count is done
            (entries, (2, 0), 3, False), (entries, (0, 3), 3, False), (entries, (True, 0), True, False),
            (entries, (True, 0), 1, False), (entries, (1, 0), True, False), (entries, (-1, 0), -1, False),
            # more steps done or begun than the plan has
            (entries, (9, 0), 9, False), (entries, (8, 0), 8, True), ((), (1, 0), 1, False), ((), (0, 0), 0, True),
            (entries, (2 ** 32 - 1, 0), 2 ** 32 - 1, False),
            # entries that no book of the floor has
            ((("in", 0),), (0, 0), 0, False), ((("out", 0), ("out", 0)), (0, 0), 0, False), ((0,), (0, 0), 0, False),
            ((("out", 2),), (0, 0), 0, False), ((("orders", ((0, 2),)),), (0, 0), 0, False), ((None,), (0, 0), 0, False),
            ((("out", 0), ("out", 1), TWO[0]), (0, 0), 0, False), ((["out", 0],), (0, 0), 0, False),
            ((("out", 0), ("in", 0)) * 200 + (("out", 0),), (0, 0), 0, False),
            ((("orders", ((0, 1),) * 6),) * 17, (0, 0), 0, False),
        ]
        for past in bad:
            if past is not None:
                for eye in (None, 0, (2, 0), (0, None)):
                    self.assertIs(raised(TWO_ROWS, 5, 0, past, eye), NoPast, past)
        self.assertIs(raised(TWO_ROWS, 5, 0, (entries, counts, 3, False), None), None)

    def test_the_eye_of_each_standing(self):
        for number, many in ((0, 8), (1, 6)):
            model = SlowRobot(TWO_ROWS, 5, number)
            model.entries = list(TWO)
            eyes = [model.eye(done) for done in range(many + 1)]
            for done in range(many + 1):
                counts = [99, 99]
                counts[number] = done
                for begun in (False, True)[:1 + (done < many)]:
                    past = (tuple(TWO), tuple(counts), done, begun)
                    for eye in [(cell, load) for cell in range(7) for load in (None, 0, 1, 2)]:
                        if eye == eyes[done]:
                            self.standing(Robot(TWO_ROWS, 5, number, past, eye), past, done)
                        elif begun and eye == eyes[done + 1]:
                            self.standing(Robot(TWO_ROWS, 5, number, past, eye), past, done + 1)
                        else:
                            self.assertIs(raised(TWO_ROWS, 5, number, past, eye), NoEye)
                    if begun:
                        self.assertIs(raised(TWO_ROWS, 5, number, past, None), NoEye)
                    else:
                        self.standing(Robot(TWO_ROWS, 5, number, past, None), past, done)

    def standing(self, robot, past, done):
        """It knows its past, and that so many of its steps are done, none being begun."""
        number = 0 if past[1][1] == 99 else 1
        model = SlowRobot(TWO_ROWS, 5, number)
        model.entries, model.done, model.counts = list(past[0]), done, [99, 99]
        model.counts[number] = done
        self.assertEqual(told(robot), (model.told(), list(past[0])))

    def test_no_eye(self):
        begun = (tuple(TWO), (3, 0), 3, True)
        for past in (PAST, begun, None):
            for eye in odd_things() + [
                0, (), (2,), (2, 0, 0), [2, 0], (2, False), (True, 0), ("2", 0), (2, "0"), (2, (0,)), (-1, 0), (2, -1),
                (None, 0), (None, None), (2, None), (6, 0), (99, None), (5, None), {2: 0}, "20",
            ]:
                # what a new robot's eye tells is (0, None)
                if (eye is not None or past == begun) and (eye != (0, None) or past is not None):
                    self.assertIs(raised(TWO_ROWS, 5, 0, past, eye), NoEye, (past, eye))
        # 0 and False, 1 and True are not one another
        self.assertIs(raised(TWO_ROWS, 5, 0, None, (False, None)), NoEye)
        self.assertIs(raised(TWO_ROWS, 5, 0, (tuple(ONE), (1, 0), 1, False), (True, None)), NoEye)


class Hearing(unittest.TestCase):
    def test_in_order_twice_and_out_of_order(self):
        robot = Robot(TWO_ROWS, 5, 0, None, None)
        for letter, word, many, counts in [
            (tell((0, 0), 0, []), "old", 0, (0, 0)),
            (tell((0, 0), 1, [TWO[1]]), "old", 0, (0, 0)),
            (tell((0, 4), 1, [TWO[1]]), "new", 0, (0, 4)),
            (tell((0, 4), 0, TWO[:1]), "new", 1, (0, 4)),
            (tell((0, 4), 0, TWO[:1]), "old", 1, (0, 4)),
            (tell((0, 3), 0, []), "old", 1, (0, 4)),
            (tell((7, 0), 0, TWO[:1]), "old", 1, (0, 4)),
            (tell((0, 0), 0, TWO), "new", 2, (0, 4)),
            (tell((0, 0), 1, [TWO[1], ("out", 0), ("out", 1)]), "new", 4, (0, 4)),
            (tell((0, 0), 0, [("in", 1)] * 3), "old", 4, (0, 4)),
            (tell((0, 0), 3, [("in", 0), ("in", 1), ("in", 0)]), "new", 6, (0, 4)),
            (tell((0, 0), 7, [TWO[0]]), "old", 6, (0, 4)),
            (tell((0, 99999), 99999, [TWO[0]]), "new", 6, (0, 99999)),
        ]:
            self.assertEqual(robot.hear(letter), word)
            self.assertEqual((len(robot.book().entries()), robot.counts()), (many, counts))
        self.assertEqual(robot.book().entries(), TWO + [("out", 0), ("out", 1), ("in", 1), ("in", 0)])

    def test_entries_that_no_book_takes(self):
        for bad in [("in", 0), ("out", 2), ("out", 99999), ("orders", ((0, 2),)), ("orders", ((0, 1), (99999, 0)))]:
            robot = Robot(TWO_ROWS, 5, 1, None, None)
            self.assertEqual(robot.hear(tell((0, 0), 0, [bad, TWO[0]])), "old")
            self.assertEqual(robot.book().entries(), [])
            self.assertEqual(robot.hear(tell((0, 0), 0, TWO + [bad, ("out", 0)])), "new")
            self.assertEqual(robot.book().entries(), TWO)
            self.assertEqual(robot.hear(tell((0, 0), 0, TWO + [bad, ("out", 0)])), "old")
            self.assertEqual(robot.hear(tell((1, 0), 2, [bad])), "new")
            self.assertEqual((robot.book().entries(), robot.counts()), (TWO, (1, 0)))
            self.assertEqual(robot.plan(), plan_of(TWO_ROWS, TWO))
        robot = Robot(TWO_ROWS, 5, 1, ((("out", 0), ("in", 0)) * 200, (0, 0), 0, False), None)
        self.assertEqual(robot.hear(tell((0, 0), 400, [("out", 0)])), "old")

    def test_what_is_none(self):
        robot = Robot(TWO_ROWS, 5, 0, PAST, None)
        kept = told(robot)
        right = tell((0, 1), 2, [("out", 1)])
        for thing in no_rows() + odd_things() + [
            tell((0, 1), 2, [("out", 1)], 4), tell((0, 1), 2, [], 2 ** 32 - 1), right[:-1], right + (0,), list(right),
            right[:3] + (right[3] + 1,) + right[4:], (right,), (), tell((0, 1, 0), 2, []), tell((0,), 2, []), robot.say(),
            slow_rows.letter(5, ("say", 1, 2, 1, (0, 1))), tell((0, 100000), 0, []), tell((0, 1), 2, [("out", 100000)]),
            tell((0, 1), 100000, []), tell((0, 1), 2, [("out", 1), ("in", 1)] * 30 + [("out", 1)]),
        ]:
            self.assertEqual(robot.hear(thing), "none")
            self.assertEqual(told(robot), kept)
        self.assertEqual(robot.hear(right), "new")

    def test_books_are_copies_and_pasts_are_told_apart(self):
        robot = Robot(TWO_ROWS, 5, 0, PAST, None)
        robot.book().add(("out", 0))
        self.assertEqual(robot.past(), PAST)
        self.assertEqual(robot.say(), letter_row(TWO_ROWS, 5, ("say", 0, 2, 3, (3, 0))))

    def test_say_is_as_read_letter_tells_it(self):
        for counts in ((3, 0), (3, 99999)):
            robot = Robot(TWO_ROWS, 5, 0, (PAST[0], counts, 3, False), None)
            self.assertEqual(read_letter(TWO_ROWS, 5, robot.say()), ("say", 0, 2, 3, counts))
        # counts that no letter tells may stand in a past, and make no letter that is read
        robot = Robot(TWO_ROWS, 5, 0, (PAST[0], (3, 2 ** 32 - 1), 3, False), None)
        self.assertIsNone(read_letter(TWO_ROWS, 5, robot.say()))


class Doing(unittest.TestCase):
    def test_step_by_step(self):
        one, other = (Robot(TWO_ROWS, 5, number, (tuple(TWO), (0, 0), 0, False), None) for number in (0, 1))
        self.assertEqual((other.step(), other.lacks(), other.may()), (("go", 6, 3, 4), (), True))
        with self.assertRaises(NotBegun):
            other.end()
        self.assertIsNone(other.begin())
        self.assertEqual((other.cells(), other.may(), other.lacks(), other.done()), ((3, 4), False, (), 0))
        with self.assertRaises(NotYet):
            other.begin()
        self.assertEqual(other.past(), (tuple(TWO), (0, 0), 0, True))
        self.assertIsNone(other.end())
        self.assertEqual((other.cells(), other.done(), other.counts()), ((4,), 1, (0, 1)))
        self.assertEqual((other.lacks(), other.may()), (((0, 5),), False))
        with self.assertRaises(NotYet):
            other.begin()
        with self.assertRaises(NotBegun):
            other.end()
        for many in range(8):
            self.assertEqual(one.may(), True)
            one.begin()
            self.assertEqual(one.load(), 0 if many in (3, 4) else None)
            one.end()
            self.assertEqual(other.hear(tell(one.counts(), 2, [])), "new")
            self.assertEqual(other.may(), many >= 5)
            self.assertEqual(other.lacks(), () if many >= 5 else ((0, 5),))
        self.assertEqual((one.step(), one.lacks(), one.may(), one.cells(), one.load()), (None, None, False, (0,), None))
        with self.assertRaises(NotYet):
            one.begin()

    def test_a_step_that_is_begun_stays_the_next_with_more_entries(self):
        robot = Robot(TWO_ROWS, 5, 0, (tuple(ONE), (1, 0), 1, False), None)
        robot.begin()
        self.assertEqual(robot.hear(tell((0, 0), 1, [TWO[1], ("orders", ((0, 0),))])), "new")
        self.assertEqual((robot.step(), robot.cells(), robot.may()), (("go", 2, 1, 2), (1, 2), False))
        self.assertEqual(robot.past()[3], True)
        robot.end()
        self.assertEqual(robot.cells(), (2,))

    def test_taking_and_putting_hold_one_cell(self):
        robot = Robot(TWO_ROWS, 5, 0, (tuple(ONE), (2, 0), 2, False), None)
        robot.begin()
        self.assertEqual((robot.cells(), robot.load()), ((2,), None))
        robot.end()
        self.assertEqual((robot.cells(), robot.load()), ((2,), 0))


class AgainstTheSlowRobot(unittest.TestCase):
    """Robots that hear and do whatever comes, beside what the document's words make of it."""

    def run_beside(self, chance, floor, many):
        number = chance.randrange(len(slow.cells_with(floor, "H")))
        robot, model = Robot(floor, 5, number, None, None), SlowRobot(floor, 5, number)
        entries = slow.random_entries(chance, floor, 6)
        seen = set()
        for _ in range(many):
            deed = chance.choice(("hear", "hear", "hear", "do", "do", "do", "do", "cut", "spoilt"))
            seen.add(getattr(self, deed)(chance, robot, model, entries) or deed)
            if deed == "cut":
                robot = self.made_anew(chance, robot, model)
            self.assertEqual(told(robot), (model.told(), model.entries))
        return seen

    def hear(self, chance, robot, model, entries):
        first = chance.randint(0, len(entries) + 1)
        told_entries = entries[first:first + chance.randint(0, 4)]
        if chance.random() < 0.2:
            at = chance.randint(0, len(told_entries))
            told_entries[at:at] = [chance.choice([("in", 0), ("out", 9), ("orders", ((99, 0),))])]
        counts = [chance.choice((0, count, count + 1, count + 9)) for count in model.counts]
        word = model.hear(counts, first, told_entries)
        self.assertEqual(robot.hear(tell(counts, first, told_entries)), word)
        return word

    def spoilt(self, chance, robot, model, entries):
        row = tell([99] * len(model.counts), 0, entries)
        at = chance.randrange(len(row))
        self.assertEqual(robot.hear(row[:at] + ((row[at] + chance.randint(1, 255)) % 256,) + row[at + 1:]), "none")

    def do(self, chance, robot, model, entries):
        if model.begun:
            with self.assertRaises(NotYet):
                robot.begin()
            model.end()
            return robot.end()
        with self.assertRaises(NotBegun):
            robot.end()
        if not model.may():
            with self.assertRaises(NotYet):
                robot.begin()
            return "waits"
        model.begun = True
        return robot.begin()

    def cut(self, chance, robot, model, entries):
        return "cut amid" if model.begun else "cut between"

    def made_anew(self, chance, robot, model):
        past = robot.past()
        if not model.begun:
            eye = chance.choice((None, model.eye()))
        elif chance.random() < 0.5:
            eye = model.eye()
            model.begun = False
        else:
            model.end()
            eye = model.eye()
        return Robot(model.floor, 5, model.number, past, eye)

    def test_beside(self):
        seen = set()
        for seed, floor in enumerate(GOOD_FLOORS[:8] * 4):
            seen |= self.run_beside(random.Random(170 + seed), floor, 80)
        self.assertEqual(seen, {"new", "old", "do", "waits", "cut amid", "cut between", "spoilt"})

    def test_names(self):
        self.assertEqual(sorted(told(Robot(TWO_ROWS, 5, 0, None, None))[0]), sorted(NAMES))


class Copies(unittest.TestCase):
    def test_robots_of_one_past_go_on_apart(self):
        one, other = (Robot(TWO_ROWS, 5, 0, PAST, (2, 0)) for _ in range(2))
        kept = told(other)
        one.hear(tell((0, 2), 2, [("out", 0)]))
        one.begin()
        one.end()
        self.assertEqual(told(other), kept)
        self.assertEqual(PAST, (tuple(TWO), (3, 0), 3, False))
        self.assertEqual(book_of(TWO_ROWS, one.past()[0]).entries(), TWO + [("out", 0)])


if __name__ == "__main__":
    unittest.main()

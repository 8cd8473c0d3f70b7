"""[6.2]: the host, its book, what it hears and tells."""

import random
import unittest

from allbrought.books import Book, book_of
from allbrought.errors import FloorError, Full, IsIn, IsOut, NoBook, NoEntry, NoneIn, NoNumber, NoRobot, NotWellFormed
from allbrought.floors import Floor
from allbrought.hosts import Host
from allbrought.letters import letter_row, read_letter
from allbrought.plans import plan_of
from allbrought.steps import steps
from tests import slow, slow_rows
from tests.things import BAD_FLOORS, GOOD_FLOORS, ONE, TWO, TWO_ROWS, no_rows, odd_things

MATCHES_NOT = odd_things() + [2 ** 32, 2 ** 64, -1, True, False, None, "0", (0,)]
TURNS = [("out", 0), ("in", 0)]


def told(host):
    return (host.book().entries(), host.plan(), host.counts(), host.left(), host.known())


def say(robot, heard, done, counts, match=5):
    return slow_rows.letter(match, ("say", robot, heard, done, counts))


class New(unittest.TestCase):
    def test_new_hosts(self):
        for floor in GOOD_FLOORS + [Floor(("H",))]:
            many = len(slow.cells_with(floor, "H"))
            for match in (0, 7, 2 ** 32 - 1):
                host = Host(floor, match, None)
                self.assertEqual(told(host), ([], plan_of(floor, []), (0,) * many, 0, ()))
                self.assertIsInstance(host.book(), Book)

    def test_it_goes_on_with_a_copy(self):
        book = book_of(TWO_ROWS, TWO)
        host = Host(TWO_ROWS, 5, book)
        self.assertEqual(told(host), (TWO, plan_of(TWO_ROWS, TWO), (0, 0), 14, ()))
        self.assertEqual(host.add(("out", 1)), 2)
        self.assertEqual(book.entries(), TWO)
        book.add(("orders", ((0, 0),)))
        self.assertEqual(host.book().entries(), TWO + [("out", 1)])
        host.book().add(("in", 1))
        self.assertEqual(host.book().entries(), TWO + [("out", 1)])
        # a floor that is equal is this floor
        self.assertEqual(Host(Floor(("H.S", "H.S")), 5, book).book().entries(), book.entries())

    def test_no_number_then_no_book_then_not_well_formed(self):
        barred = BAD_FLOORS[0][0]
        for match in MATCHES_NOT:
            for floor, book in [(TWO_ROWS, None), (TWO_ROWS, 0), (barred, None), (barred, 0), (TWO_ROWS, Book(TWO_ROWS))]:
                with self.assertRaises(NoNumber):
                    Host(floor, match, book)
        books = [Book(floor) for floor in GOOD_FLOORS if floor.rows != TWO_ROWS.rows]
        for thing in odd_things() + [0, "", [], (), TWO, tuple(TWO), plan_of(TWO_ROWS, TWO), Host(TWO_ROWS, 0, None)] + books:
            if thing is not None:
                for floor in (TWO_ROWS, barred):
                    with self.assertRaises(NoBook):
                        Host(floor, 0, thing)
        for floor, pair in BAD_FLOORS:
            with self.assertRaises(NotWellFormed) as held:
                Host(floor, 0, None)
            self.assertEqual((held.exception.who, held.exception.station), pair)

    def test_hosts_are_equal_to_nothing_else(self):
        host = Host(TWO_ROWS, 5, None)
        for thing in odd_things() + [Book(TWO_ROWS), TWO_ROWS]:
            self.assertIs(host == thing, False)
            self.assertIs(thing == host, False)


class Adding(unittest.TestCase):
    def refused(self, host, entry):
        kept = told(host)
        with self.assertRaises(FloorError) as held:
            host.add(entry)
        self.assertEqual(told(host), kept)
        return held.exception.__class__

    def test_add(self):
        chance = random.Random(161)
        for floor in GOOD_FLOORS:
            host = Host(floor, 0, None)
            entries = slow.random_entries(chance, floor, 8)
            for number, entry in enumerate(entries):
                self.assertEqual(host.add(entry), number)
                plan = plan_of(floor, entries[:number + 1])
                self.assertEqual(host.book().entries(), entries[:number + 1])
                self.assertEqual(host.plan(), plan)
                self.assertEqual(host.left(), sum(len(steps(plan, robot)) for robot in range(len(plan.tracks))))

    def test_errors(self):
        host = Host(TWO_ROWS, 0, None)
        for thing in odd_things() + [("orders", ((0, 2),)), ("out", 2)]:
            self.assertIs(self.refused(host, thing), NoEntry)
        self.assertIs(self.refused(host, ("in", 0)), IsIn)
        host.add(("out", 0))
        self.assertIs(self.refused(host, ("out", 0)), IsOut)
        host.add(("out", 1))
        self.assertIs(self.refused(host, ONE[0]), NoneIn)
        host = Host(TWO_ROWS, 0, book_of(TWO_ROWS, TURNS * 200))
        self.assertIs(self.refused(host, ("out", 0)), Full)


class Hearing(unittest.TestCase):
    def test_new_and_old(self):
        host = Host(TWO_ROWS, 5, book_of(TWO_ROWS, TWO))
        for letter, word, counts, known in [
            (say(0, 0, 0, (0, 0)), "old", (0, 0), (0,)),
            (say(1, 1, 1, (9, 1)), "new", (0, 1), (0, 1)),
            (say(0, 2, 5, (5, 0)), "new", (5, 1), (0, 1)),
            (say(0, 2, 5, (5, 0)), "old", (5, 1), (0, 1)),
            (say(0, 1, 3, (3, 6)), "old", (5, 1), (0, 1)),
            (say(0, 2, 8, (8, 6)), "new", (8, 1), (0, 1)),
            (say(0, 2, 9, (9, 6)), "none", (8, 1), (0, 1)),
            (say(1, 2, 6, (0, 6)), "new", (8, 6), (0, 1)),
            (say(1, 0, 0, (0, 0)), "old", (8, 6), (0, 1)),
        ]:
            self.assertEqual(host.hear(letter), word)
            self.assertEqual((host.counts(), host.known(), host.left()), (counts, known, 14 - sum(counts)))

    def test_what_is_none(self):
        host = Host(TWO_ROWS, 5, book_of(TWO_ROWS, TWO))
        host.hear(say(0, 1, 3, (3, 0)))
        kept = told(host)
        right = say(1, 2, 1, (0, 1))
        for thing in no_rows() + odd_things() + [
            say(1, 2, 1, (0, 1), 4), say(1, 2, 1, (0, 1), 2 ** 32 - 1), say(1, 2, 7, (0, 7)), say(0, 2, 9, (9, 0)),
            say(0, 2, 99999, (99999, 0)), say(2, 0, 0, (0, 0)), say(1, 2, 1, (0, 0)), say(1, 2, 1, (0, 1, 0)),
            say(1, 100000, 1, (0, 1)), right[:-1], right + (0,), right[:3] + (9,) + right[4:], list(right), (), (right,),
            slow_rows.letter(5, ("tell", (9, 9), 0, ())), host.letter(0),
        ]:
            self.assertEqual(host.hear(thing), "none")
            self.assertEqual(told(host), kept)
        self.assertEqual(host.hear(right), "new")

    def test_more_steps_than_the_plan_has(self):
        host = Host(TWO_ROWS, 5, book_of(TWO_ROWS, ONE))
        self.assertEqual(host.hear(say(1, 0, 1, (0, 1))), "none")
        self.assertEqual(host.hear(say(0, 0, 9, (9, 0))), "none")
        self.assertEqual(host.known(), ())
        host.add(TWO[1])
        self.assertEqual(host.hear(say(1, 0, 1, (0, 1))), "new")
        self.assertEqual((host.counts(), host.known()), ((0, 1), (1,)))
        # what others are said to have done is not asked
        self.assertEqual(host.hear(say(0, 0, 0, (0, 99999))), "old")
        self.assertEqual(host.counts(), (0, 1))

    def test_against_a_look_at_all_sayings(self):
        chance = random.Random(162)
        for floor in GOOD_FLOORS[1:8]:
            entries = slow.random_entries(chance, floor, 5)
            host = Host(floor, 5, book_of(floor, entries))
            plan = plan_of(floor, entries)
            limits = [len(slow.steps_of(plan, robot)) for robot in range(len(plan.tracks))]
            said, heard = [[0] for _ in limits], [[] for _ in limits]
            for _ in range(60):
                robot = chance.randrange(len(limits))
                done, most = chance.randint(0, limits[robot] + 2), chance.randint(0, 7)
                counts = [chance.randint(0, 300) for _ in limits]
                counts[robot] = done
                expected = "none" if done > limits[robot] else "new" if done > max(said[robot]) else "old"
                self.assertEqual(host.hear(say(robot, most, done, counts)), expected)
                if expected != "none":
                    said[robot].append(done)
                    heard[robot].append(most)
                self.assertEqual(host.counts(), tuple(map(max, said)))
                self.assertEqual(host.left(), sum(limits) - sum(map(max, said)))
                self.assertEqual(host.known(), tuple(number for number, some in enumerate(heard) if some))
                for number, some in enumerate(heard):
                    if some:
                        told_entries = tuple(entries[max(some):])
                        letter = ("tell", host.counts(), max(some), told_entries)
                        self.assertEqual(host.letter(number), slow_rows.letter(5, letter))


class Telling(unittest.TestCase):
    def test_letter(self):
        host = Host(TWO_ROWS, 5, book_of(TWO_ROWS, TWO))
        host.hear(say(1, 0, 0, (0, 0)))
        host.hear(say(0, 1, 4, (4, 0)))
        self.assertEqual(host.letter(1), letter_row(TWO_ROWS, 5, ("tell", (4, 0), 0, tuple(TWO))))
        self.assertEqual(host.letter(0), letter_row(TWO_ROWS, 5, ("tell", (4, 0), 1, (TWO[1],))))
        host.hear(say(1, 2, 1, (0, 1)))
        self.assertEqual(host.letter(1), letter_row(TWO_ROWS, 5, ("tell", (4, 1), 2, ())))
        # the most that it ever heard
        host.hear(say(1, 0, 2, (0, 2)))
        self.assertEqual(host.letter(1), letter_row(TWO_ROWS, 5, ("tell", (4, 2), 2, ())))
        host.add(("out", 1))
        self.assertEqual(host.letter(1), letter_row(TWO_ROWS, 5, ("tell", (4, 2), 2, (("out", 1),))))

    def test_at_most_sixty_entries(self):
        entries = TURNS * 75
        host = Host(TWO_ROWS, 5, book_of(TWO_ROWS, entries))
        for heard in (0, 1, 60, 89, 90, 91, 149, 150, 151, 400, 99999):
            host = Host(TWO_ROWS, 5, book_of(TWO_ROWS, entries))
            host.hear(say(0, heard, 0, (0, 0)))
            found = read_letter(TWO_ROWS, 5, host.letter(0))
            self.assertEqual(found, ("tell", (0, 0), heard, tuple(entries[heard:heard + 60])))

    def test_no_robot(self):
        host = Host(TWO_ROWS, 5, None)
        for thing in odd_things() + [0, 1, 2]:
            with self.assertRaises(NoRobot):
                host.letter(thing)
        host.hear(say(1, 0, 0, (0, 0)))
        for thing in odd_things() + [0, 2]:
            with self.assertRaises(NoRobot):
                host.letter(thing)
        self.assertEqual(read_letter(TWO_ROWS, 5, host.letter(1)), ("tell", (0, 0), 0, ()))
        host.hear(say(0, 0, 0, (0, 0)))
        self.assertEqual(host.known(), (0, 1))
        for thing in odd_things():
            with self.assertRaises(NoRobot):
                host.letter(thing)


if __name__ == "__main__":
    unittest.main()

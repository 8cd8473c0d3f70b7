"""[2.1]: books and their entries."""

import random
import unittest

from allbrought.books import Book, book_of
from allbrought.errors import BadEntry, FloorError, Full, IsIn, IsOut, NoEntry, NoneIn, NotWellFormed
from allbrought.floors import Floor
from allbrought.plans import plan_of
from tests import slow
from tests.things import BAD_FLOORS, GOOD_FLOORS, TWO, TWO_ROWS, odd_things, sample_plans

ORDER = ("orders", ((0, 1),))
SIX = ("orders", ((0, 1),) * 6)


def told(book):
    plan = book.plan()
    return (book.entries(), book.orders(), book.robots_in(), plan.tracks, plan.jobs)


def full_book():
    """A book of 96 orders."""
    return book_of(TWO_ROWS, [SIX] * 16)


def no_entries():
    """Things that are no entries of TWO_ROWS, each as near to one as can be."""
    return odd_things() + [
        ("orders", ()), ("orders", [(0, 1)]), ("orders", ((0, 1), [0, 1])), ("orders", ((0, 2),)), ("orders", ((2, 0),)),
        ("orders", ((0, 1),) * 7), ("orders", ((0, -1),)), ("orders", ((0, True),)), ("orders", ((False, 0),)),
        ("orders", ((0,),)), ("orders", ((0, 1, 0),)), ("orders", (0, 1)), ("orders", (((0, 1),),)), ("orders", None),
        ("orders", ((0, 1),), 0), ["orders", ((0, 1),)], ("order", ((0, 1),)), ("Orders", ((0, 1),)), ("orders",),
        (b"orders", ((0, 1),)), ("out", 2), ("out", -1), ("out", True), ("out", (0,)), ("out", "0"), ("out", None),
        ("out", 0, 0), ("out",), ["out", 0], ("in", 2), ("in", False), ("in", 10 ** 20 - 1), ("OUT", 0), ("", 0),
        ("on", 0), (("out",), 0), (None, 0), (0, "out"), "out", "in", {"out": 0}, ("orders", "ab"), ("orders", ("ab",)),
        ("orders", ((0, None),)), ("orders", ((0, (1,)),)), ("orders", ((0, 10 ** 20 - 1),)),
    ]


class Books(unittest.TestCase):
    def test_not_well_formed(self):
        for floor, (who, station) in BAD_FLOORS:
            for call in (lambda: Book(floor), lambda: book_of(floor, []), lambda: book_of(floor, None)):
                with self.assertRaises(NotWellFormed) as held:
                    call()
                self.assertEqual((held.exception.who, held.exception.station), (who, station))

    def test_an_empty_book(self):
        for floor in GOOD_FLOORS + [Floor(("H",)), Floor(("HH#H",))]:
            book = Book(floor)
            robots = tuple(range(len(slow.cells_with(floor, "H"))))
            self.assertEqual((book.entries(), book.orders(), book.robots_in()), ([], [], robots))
            self.assertEqual(book.plan(), plan_of(floor, ()))

    def test_behind_each_entry(self):
        chance = random.Random(61)
        samples = sample_plans() + [
            (floor, slow.random_entries(chance, floor, 10)) for floor in GOOD_FLOORS
        ]
        for floor, entries in samples:
            book = Book(floor)
            never_asked = Book(floor)
            for number, entry in enumerate(entries):
                self.assertEqual(book.add(entry), number)
                never_asked.add(entry)
                known = entries[:number + 1]
                self.assertEqual(book.entries(), known)
                orders = slow.orders_told(floor, known)
                self.assertEqual(book.orders(), [(one, other, at) for one, other, at, _ in orders])
                inside = slow.orders_told(floor, known + [("orders", ((0, 0),))])[-1][3]
                self.assertEqual(book.robots_in(), tuple(inside))
                self.assertEqual(book.plan(), plan_of(floor, known))
            self.assertEqual(told(never_asked), told(book))
            self.assertEqual(told(book_of(floor, list(entries))), told(book))
            self.assertEqual(told(book_of(floor, tuple(entries))), told(book))

    def test_kinds_and_new_lists(self):
        book = book_of(TWO_ROWS, TWO)
        self.assertEqual(book.orders(), [(0, 1, 0), (1, 1, 1)])
        self.assertIsInstance(book.robots_in(), tuple)
        for ask in (book.entries, book.orders):
            first, second = ask(), ask()
            self.assertIsInstance(first, list)
            self.assertIsNot(first, second)
            first.clear()
            self.assertEqual(ask(), second)
        self.assertEqual(book.plan(), book.plan())
        passed = list(TWO)
        book = book_of(TWO_ROWS, passed)
        passed.append(ORDER)
        self.assertEqual(book.entries(), TWO)

    def test_no_entry(self):
        for book in (Book(TWO_ROWS), book_of(TWO_ROWS, [("out", 0), ("out", 1)]), book_of(TWO_ROWS, [SIX] * 16)):
            kept = told(book)
            for thing in no_entries():
                with self.assertRaises(NoEntry):
                    book.add(thing)
                self.assertEqual(book.entries(), kept[0])
            self.assertEqual(told(book), kept)
        with self.assertRaises(NoEntry):
            Book(Floor(("H",))).add(("orders", ((0, 0),)))

    def refused(self, book, entry):
        """The class of the error, the book being as it was."""
        kept = told(book)
        with self.assertRaises(FloorError) as held:
            book.add(entry)
        self.assertEqual(told(book), kept)
        return held.exception.__class__

    def test_none_in(self):
        book = book_of(TWO_ROWS, [("out", 1), ORDER, ("out", 0)])
        self.assertIs(self.refused(book, ORDER), NoneIn)
        self.assertEqual(book.add(("in", 1)), 3)
        self.assertEqual(book.add(ORDER), 4)

    def test_is_out_is_in(self):
        book = Book(TWO_ROWS)
        self.assertIs(self.refused(book, ("in", 0)), IsIn)
        self.assertEqual(book.add(("out", 0)), 0)
        self.assertIs(self.refused(book, ("out", 0)), IsOut)
        self.assertIs(self.refused(book, ("in", 1)), IsIn)
        self.assertEqual(book.add(("in", 0)), 1)
        self.assertIs(self.refused(book, ("in", 0)), IsIn)
        self.assertEqual(book.robots_in(), (0, 1))

    def test_as_many_as_a_hundred_orders(self):
        book = full_book()
        self.assertIs(self.refused(book, ("orders", ((0, 1),) * 5)), Full)
        self.assertIs(self.refused(book, SIX), Full)
        self.assertEqual(book.add(("orders", ((0, 1),) * 3)), 16)
        self.assertIs(self.refused(book, ("orders", ((0, 1),) * 2)), Full)
        self.assertEqual(book.add(ORDER), 17)
        self.assertEqual(len(book.orders()), 100)
        self.assertIs(self.refused(book, ORDER), Full)
        self.assertEqual(book.add(("out", 1)), 18)
        self.assertEqual(book.plan(), plan_of(TWO_ROWS, book.entries()))

    def test_as_many_as_400_entries(self):
        book = book_of(TWO_ROWS, [("out", 0), ("in", 0)] * 199 + [ORDER])
        self.assertEqual(book.add(("out", 0)), 399)
        for entry in [ORDER, ("in", 0), ("out", 1)]:
            self.assertIs(self.refused(book, entry), Full)

    def test_the_order_of_errors(self):
        full = book_of(TWO_ROWS, [("out", 0), ("in", 0)] * 199 + [("out", 0), ("out", 1)])
        self.assertIs(self.refused(full, ORDER), NoneIn)
        self.assertIs(self.refused(full, ("out", 0)), Full)
        self.assertIs(self.refused(full, ("in", 1)), Full)
        self.assertIs(self.refused(full, ("out", 2)), NoEntry)
        self.assertIs(self.refused(full, ("orders", ((0, 2),))), NoEntry)
        full = book_of(TWO_ROWS, [("out", 0), ("in", 0)] * 200)
        self.assertIs(self.refused(full, ("in", 0)), Full)
        crowded = full_book()
        for robot in (0, 1):
            crowded.add(("out", robot))
        self.assertIs(self.refused(crowded, SIX), NoneIn)

    def test_a_copy_goes_on_apart(self):
        book = book_of(TWO_ROWS, TWO)
        for other, more in [(book.copy(), ("out", 1)), (book.copy(), ORDER)]:
            self.assertIsInstance(other, Book)
            self.assertEqual(told(other), told(book))
            kept = told(book)
            other.add(more)
            self.assertEqual(told(book), kept)
            self.assertEqual(other.entries(), TWO + [more])
            self.assertEqual(other.plan(), plan_of(TWO_ROWS, TWO + [more]))
        other = book.copy()
        kept = told(other)
        book.add(("orders", ((1, 0), (0, 0))))
        self.assertEqual(told(other), kept)
        self.assertEqual(told(book), told(book_of(TWO_ROWS, book.entries())))

    def test_books_are_equal_to_nothing_else(self):
        book = book_of(TWO_ROWS, TWO)
        for thing in odd_things() + [TWO, TWO_ROWS, book.plan()]:
            self.assertIs(book == thing, False)
            self.assertIs(thing == book, False)
        self.assertTrue(book == book)

    def bad_entry(self, floor, entries):
        with self.assertRaises(BadEntry) as held:
            book_of(floor, entries)
        return held.exception.index

    def test_bad_entry(self):
        for thing in odd_things():
            if not isinstance(thing, (list, tuple)):
                self.assertEqual(self.bad_entry(TWO_ROWS, thing), -1)
        for thing in [None, 0, "", "out", {}, {0: ORDER}, range(0), Book(TWO_ROWS), b""]:
            self.assertEqual(self.bad_entry(TWO_ROWS, thing), -1)
        for kind in (list, tuple):
            for thing in no_entries():
                self.assertEqual(self.bad_entry(TWO_ROWS, kind([thing])), 0)
                self.assertEqual(self.bad_entry(TWO_ROWS, kind([ORDER, ("out", 0), thing, None])), 2)
            self.assertEqual(self.bad_entry(TWO_ROWS, kind([("in", 0)])), 0)
            self.assertEqual(self.bad_entry(TWO_ROWS, kind([("out", 0), ("out", 0), ("x", 0)])), 1)
            self.assertEqual(self.bad_entry(TWO_ROWS, kind([("out", 0), ("out", 1), ORDER])), 2)
            self.assertEqual(self.bad_entry(TWO_ROWS, kind([SIX] * 17)), 16)
            self.assertEqual(self.bad_entry(TWO_ROWS, kind([("out", 0), ("in", 0)] * 200 + [ORDER])), 400)
            self.assertEqual(book_of(TWO_ROWS, kind([])).entries(), [])


if __name__ == "__main__":
    unittest.main()

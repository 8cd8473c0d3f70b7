"""[5.4]: rows of entries and of books, and THE FACT OF ROWS."""

import random
import unittest

from allbrought.bookrows import book_row, entry_row, read_book, read_entry
from allbrought.books import Book, book_of
from allbrought.errors import BadEntry, BadRow, NoEntry, NoPlace, NoRow, NotWellFormed
from tests import slow, slow_rows
from tests.things import BAD_FLOORS, GOOD_FLOORS, TWO, TWO_ROWS, no_rows, odd_things, sample_plans

GREATEST = 2 ** 32 - 1


def formed():
    """Things of the form of an entry: of each word, of one to six pairs, of small and of great numbers."""
    chance = random.Random(141)
    numbers = [0, 1, 5, 127, 128, 300, 16383, 16384, 99999, 100000, GREATEST - 1, GREATEST]
    found = [(word, number) for word in ("out", "in") for number in numbers]
    for many in range(1, 7):
        found.append(("orders", ((0, 0),) * many))
        found.append(("orders", ((GREATEST, GREATEST),) * many))
        for _ in range(10):
            found.append(("orders", tuple((chance.choice(numbers), chance.choice(numbers)) for _ in range(many))))
    return found


def not_formed():
    """Things that have not the form of an entry."""
    return odd_things() + [
        ("orders", ()), ("orders", ((0, 1),) * 7), ("orders", [(0, 1)]), ("orders", ([0, 1],)), ("orders", ((0, 1), None)),
        ("orders", ((0,),)), ("orders", ((0, 1, 2),)), ("orders", (0, 1)), ("orders", 1), ("orders", "ab"),
        ("orders", ((0, 2 ** 32),)), ("orders", ((2 ** 32, 0),)), ("orders", ((0, -1),)), ("orders", ((0, True),)),
        ("orders", ((0, "1"),)), ("orders", ((0, (1,)),)), ("orders", ((0, 1),), 0), ["orders", ((0, 1),)],
        ("out", 2 ** 32), ("in", 2 ** 32), ("out", -1), ("in", True), ("out", None), ("in", "0"), ("out", (0,)),
        ("out",), ("out", 0, 0), ["out", 0], ("Out", 0), ("off", 0), ("", 0), (b"out", 0), (2, 0), (None, 0),
        (("out",), 0), "out", {"out": 0}, ("orders", 0), ("out", ((0, 1),)), (TWO_ROWS, 0), TWO_ROWS, Book(TWO_ROWS),
    ]


class Entries(unittest.TestCase):
    def test_by_hand(self):
        self.assertEqual(entry_row(("orders", ((0, 1),))), (1, 1, 0, 1))
        self.assertEqual(entry_row(("orders", ((300, 1), (0, 127)))), (1, 2, 172, 2, 1, 0, 127))
        self.assertEqual(entry_row(("out", 5)), (2, 5))
        self.assertEqual(entry_row(("in", 128)), (3, 128, 1))
        self.assertEqual(entry_row(("in", GREATEST)), (3, 255, 255, 255, 255, 15))

    def test_entry_row(self):
        for entry in formed():
            self.assertEqual(entry_row(entry), slow_rows.entry(entry))

    def test_no_entry(self):
        for thing in not_formed():
            with self.assertRaises(NoEntry):
                entry_row(thing)

    def test_each_is_read_back_wherever_it_stands(self):
        chance = random.Random(142)
        for entry in formed():
            row = entry_row(entry)
            for many in (0, 1, 7):
                ahead = tuple(chance.randrange(256) for _ in range(many))
                behind = tuple(chance.randrange(256) for _ in range(chance.choice((0, 3))))
                found = read_entry(ahead + row + behind, many)
                self.assertEqual(found, (entry, many + len(row)))
                self.assertEqual((type(found), type(found[0]), type(found[0][1])), (tuple, tuple, type(entry[1])))

    def bad(self, row, at, place):
        with self.assertRaises(BadRow) as held:
            read_entry(row, at)
        self.assertEqual(held.exception.place, place)

    def test_bad_rows(self):
        beyond = slow_rows.whole(2 ** 32)
        for row, place in [
            ((), 0), ((0, 1, 0, 1), 0), ((4, 0), 0), ((255, 0), 0), ((129, 0), 0),
            ((1,), 1), ((1, 0), 1), ((1, 0, 0, 0), 1), ((1, 7) + (0,) * 14, 1), ((1, 128, 0), 1), ((1, 129, 0, 0, 0), 1),
            ((1, 128, 1), 1), ((1, 255) * 20, 1), ((1,) + slow_rows.whole(2 ** 64) + (0, 0), 1),
            ((1, 1), 2), ((1, 1, 0), 3), ((1, 1, 0, 128), 3), ((1, 1, 128, 0, 0), 2), ((1, 2, 0, 1, 0), 5),
            ((1, 1) + beyond + (0,), 2), ((1, 1, 0) + beyond, 3), ((1, 1, 128, 1) + beyond, 4),
            ((1, 1) + (255,) * 11 + (0,), 2), ((2,), 1), ((3,), 1), ((2,) + beyond, 1), ((3, 128), 1), ((3, 128, 0), 1),
        ]:
            for ahead in ((), (1, 1), (200,) * 5):
                self.bad(ahead + row, len(ahead), len(ahead) + place)
        self.bad((2, 0), 2, 2)

    def test_any_rows(self):
        chance = random.Random(143)
        counts = {True: 0, False: 0}
        for _ in range(4000):
            row = slow_rows.entry(chance.choice(formed()))
            row = row[:chance.choice((len(row), chance.randint(0, len(row))))]
            for _ in range(chance.randint(0, 2)):
                at = chance.randint(0, len(row))
                row = row[:at] + (chance.choice((0, 1, 2, 3, 6, 7, 128, 255)),) + row[at + chance.randint(0, 1):]
            expected = slow_rows.read_entry(row, 0)
            counts[isinstance(expected, tuple)] += 1
            if isinstance(expected, tuple):
                self.assertEqual(read_entry(row, 0), expected)
                # no other row is read as it
                self.assertEqual(entry_row(expected[0]), row[:expected[1]])
            else:
                self.bad(row, 0, expected)
        self.assertGreater(min(counts.values()), 500)

    def test_no_row_then_no_place(self):
        for thing in no_rows():
            for at in (0, None, -1):
                with self.assertRaises(NoRow):
                    read_entry(thing, at)
        for at in odd_things() + [3, -1, True, False, None, "0"]:
            for row in ((2, 0), (9, 9)):
                with self.assertRaises(NoPlace):
                    read_entry(row, at)


class Books(unittest.TestCase):
    def test_read_back(self):
        chance = random.Random(144)
        made = [(floor, slow.random_entries(chance, floor, many)) for floor in GOOD_FLOORS for many in (1, 5, 12)]
        made.append((TWO_ROWS, [("out", 1), ("in", 1)] * 200))
        for floor, entries in sample_plans() + made:
            book = book_of(floor, entries)
            row = book_row(book)
            self.assertEqual(row, slow_rows.entries(book.entries()))
            other = read_book(floor, row)
            self.assertIsInstance(other, Book)
            self.assertEqual(other.entries(), book.entries())
            self.assertEqual(other.orders(), book.orders())
            self.assertEqual(other.robots_in(), book.robots_in())
            self.assertEqual(other.plan(), book.plan())
            self.assertEqual(book_row(other), row)

    def test_by_hand(self):
        self.assertEqual(book_row(Book(TWO_ROWS)), (0,))
        self.assertEqual(book_row(book_of(TWO_ROWS, TWO + [("out", 1)])), (3, 1, 1, 0, 1, 1, 1, 1, 1, 2, 1))

    def bad(self, floor, row, place):
        with self.assertRaises(BadRow) as held:
            read_book(floor, row)
        self.assertEqual(held.exception.place, place)

    def test_no_row_then_bad_row_then_not_well_formed_then_bad_entry(self):
        two = (2, 1, 1, 0, 1, 1, 1, 1, 1)
        for floor in [TWO_ROWS] + [floor for floor, _ in BAD_FLOORS]:
            for thing in no_rows():
                with self.assertRaises(NoRow):
                    read_book(floor, thing)
            for row, place in [
                ((), 0), ((128,), 0), ((128, 0), 0), ((1,), 1), ((1, 0), 1), ((1, 4, 0), 1), ((2,) + (2, 0), 3),
                ((2, 2, 0, 5), 3), ((2, 2, 0, 3), 4), (two[:-1], 8), (two[:6], 6), ((0, 0), 1), (two + (0,), 9),
                (two + (2, 1), 9), ((1, 1, 0), 2), ((1, 1, 7), 2), ((1, 2) + slow_rows.whole(2 ** 32), 2),
                (slow_rows.whole(2 ** 64 - 1), 10), (slow_rows.whole(2 ** 64), 0), (slow_rows.whole(10 ** 9) + (2, 0), 7),
                # what no book takes is told behind
                ((2, 3, 0, 9), 3), ((1, 3, 0, 0), 3),
            ]:
                self.bad(floor, row, place)
        for floor, pair in BAD_FLOORS:
            for row in ((0,), two, (1, 3, 0), (1, 2, 100)):
                with self.assertRaises(NotWellFormed) as held:
                    read_book(floor, row)
                self.assertEqual((held.exception.who, held.exception.station), pair)

    def test_bad_entry(self):
        for entries, index in [
            ([("in", 0)], 0), ([("out", 0), ("out", 0)], 1), (TWO + [("out", 2)], 2), (TWO + [("in", GREATEST)], 2),
            (TWO + [("orders", ((0, 1), (2, 0))), ("in", 0)], 2), ([("out", 0), ("out", 1), TWO[0]], 2),
            ([("orders", ((0, 1),) * 6)] * 17, 16), ([("out", 0), ("in", 0)] * 200 + [("out", 0)] * 5, 400),
        ]:
            with self.assertRaises(BadEntry) as held:
                read_book(TWO_ROWS, slow_rows.entries(entries))
            self.assertEqual(held.exception.index, index)

    def test_any_rows(self):
        chance = random.Random(145)
        good = 0
        for _ in range(1500):
            row = slow_rows.entries(slow.random_entries(chance, TWO_ROWS, chance.randint(0, 4)))
            for _ in range(chance.randint(0, 2)):
                at = chance.randint(0, len(row))
                row = row[:at] + (chance.choice((0, 1, 2, 3, 128)),) * chance.randint(0, 1) + row[at + 1:]
            expected = slow_rows.read_entries(row, 0)
            if isinstance(expected, tuple) and expected[1] == len(row):
                try:
                    self.assertEqual(book_row(read_book(TWO_ROWS, row)), row)
                    good += 1
                except BadEntry as error:
                    self.assertLess(error.index, len(expected[0]))
            else:
                self.bad(TWO_ROWS, row, expected if isinstance(expected, int) else expected[1])
        self.assertGreater(good, 300)


if __name__ == "__main__":
    unittest.main()

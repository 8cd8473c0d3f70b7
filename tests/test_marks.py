"""[5.2]: marks, and THE FACT OF MARKS."""

import random
import unittest

from allbrought.errors import NoNumber, NoRow
from allbrought.marks import mark, mark_behind
from tests import slow_rows
from tests.things import no_rows, odd_things

MODULUS = 2 ** 61 - 1


def rows():
    chance = random.Random(121)
    made = [(), (0,), (7,), (255,), (0, 0), (255,) * 50, tuple(range(256))]
    return made + [tuple(chance.randrange(256) for _ in range(many)) for many in (2, 3, 4, 5, 10, 100, 3000)]


class Marks(unittest.TestCase):
    def test_by_hand(self):
        self.assertEqual(mark(()), 1)
        self.assertEqual(mark((7,)), 1000011)
        self.assertEqual(mark((0,)), 1000004)
        self.assertEqual(mark((0, 0)), 1000004 * 1000003 + 1)

    def test_mark(self):
        for row in rows() + [(byte,) for byte in range(256)]:
            self.assertEqual(mark(row), slow_rows.mark(row))
            self.assertLess(mark(row), MODULUS)

    def test_the_longest_row(self):
        row = (0, 255, 3) * 100000
        self.assertEqual(mark(row), slow_rows.mark(row))

    def test_mark_behind(self):
        for ahead in (0, 1, 2, 10 ** 9, 2 ** 60, MODULUS - 2, MODULUS - 1):
            self.assertEqual(mark_behind(ahead, ()), ahead)
            for byte in (0, 1, 255):
                self.assertEqual(mark_behind(ahead, (byte,)), (ahead * 1000003 + byte + 1) % MODULUS)
        for row in rows():
            self.assertEqual(mark_behind(1, row), mark(row))

    def test_the_fact_of_marks(self):
        for row in rows():
            for cut in sorted({0, 1, 2, len(row) // 2, len(row) - 1, len(row)} & set(range(len(row) + 1))):
                self.assertEqual(mark_behind(mark(row[:cut]), row[cut:]), mark(row))

    def test_no_number_then_no_row(self):
        for thing in odd_things() + [MODULUS, MODULUS + 1, 2 ** 61, 2 ** 64, -1, True, False, None, "1", (1,)]:
            for row in ((), (7,), None, (256,)):
                with self.assertRaises(NoNumber):
                    mark_behind(thing, row)
        for thing in no_rows():
            with self.assertRaises(NoRow):
                mark(thing)
            for ahead in (0, MODULUS - 1):
                with self.assertRaises(NoRow):
                    mark_behind(ahead, thing)


if __name__ == "__main__":
    unittest.main()

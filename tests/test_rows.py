"""[5.1]: rows, whole and signed, and how they are read."""

import random
import unittest

from allbrought.errors import BadRow, NoNumber, NoPlace, NoRow
from allbrought.rows import read_signed, read_whole, signed, whole
from tests import slow_rows
from tests.things import no_rows, odd_things


def numbers():
    """Numbers below 2 ** 64: small ones, powers of 2 and of 128 and their neighbours, others."""
    chance = random.Random(111)
    powers = [2 ** many for many in range(64)] + [2 ** 64 - 1]
    near = {power + more for power in powers for more in (-1, 0, 1)}
    some = {chance.randrange(2 ** chance.randint(1, 64)) for _ in range(300)}
    return sorted(number for number in near | some | set(range(300)) if 0 <= number < 2 ** 64)


def integers():
    found = numbers()
    return sorted(sign * number for number in found for sign in (1, -1) if number <= 2 ** 62)


class Whole(unittest.TestCase):
    def test_by_hand(self):
        self.assertEqual(whole(0), (0,))
        self.assertEqual(whole(127), (127,))
        self.assertEqual(whole(128), (128, 1))
        self.assertEqual(whole(300), (172, 2))
        self.assertEqual(whole(128 ** 2 - 1), (255, 127))
        self.assertEqual(whole(128 ** 2), (128, 128, 1))
        self.assertEqual(whole(2 ** 64 - 1), (255,) * 9 + (1,))
        self.assertEqual(whole(2 ** 63), (128,) * 9 + (1,))

    def test_whole(self):
        for number in numbers():
            self.assertEqual(whole(number), slow_rows.whole(number))
            self.assertIsInstance(whole(number), tuple)

    def test_no_whole_number(self):
        for thing in odd_things() + [2 ** 64, 2 ** 64 + 1, 2 ** 66, -1, -2 ** 63, (0,), [0], "0", b"0", True, None]:
            with self.assertRaises(NoNumber):
                whole(thing)

    def test_signed(self):
        self.assertEqual([signed(number) for number in (0, -1, 1, -2, 2)], [(0,), (1,), (2,), (3,), (4,)])
        self.assertEqual((signed(64), signed(-64), signed(-65)), ((128, 1), (127,), (129, 1)))
        self.assertEqual(signed(2 ** 62), slow_rows.whole(2 ** 63))
        self.assertEqual(signed(-2 ** 62), slow_rows.whole(2 ** 63 - 1))
        for number in integers():
            self.assertEqual(signed(number), slow_rows.whole(2 * number if number >= 0 else -2 * number - 1))

    def test_no_signed_number(self):
        things = [thing for thing in odd_things() if not type(thing) is int or abs(thing) > 2 ** 62]
        self.assertEqual(len(things), len(odd_things()) - 1)
        for thing in things + [2 ** 62 + 1, -2 ** 62 - 1, 2 ** 63, -2 ** 63, "1", (1,), True, False]:
            with self.assertRaises(NoNumber):
                signed(thing)


class Reading(unittest.TestCase):
    def test_each_is_read_back_wherever_it_stands(self):
        chance = random.Random(112)
        for call, write, some in ((read_whole, whole, numbers()), (read_signed, signed, integers())):
            for number in some:
                row = write(number)
                for _ in range(3):
                    ahead, behind = (
                        tuple(chance.randrange(256) for _ in range(chance.choice((0, 1, 5)))) for _ in range(2)
                    )
                    found = call(ahead + row + behind, len(ahead))
                    self.assertEqual(found, (number, len(ahead) + len(row)))
                    self.assertIsInstance(found, tuple)

    def test_one_behind_the_other(self):
        some = integers()
        row = tuple(byte for number in some for byte in signed(number))
        at, found = 0, []
        while at < len(row):
            number, at = read_signed(row, at)
            found.append(number)
        self.assertEqual(found, some)

    def test_all_short_rows(self):
        near = [0, 1, 2, 126, 127, 128, 129, 254, 255]
        for one in range(256):
            for other in near:
                for row in ((one,), (one, other), (other, one, other), (255, one, other)):
                    for at in range(len(row) + 1):
                        self.same_as_slow(row, at)

    def same_as_slow(self, row, at):
        expected = slow_rows.number_at(row, at)
        if expected is not None:
            self.assertEqual(read_whole(row, at), expected)
            number = expected[0]
            half = number // 2 if number % 2 == 0 else -(number + 1) // 2
            if abs(half) <= 2 ** 62:
                self.assertEqual(read_signed(row, at), (half, expected[1]))
        else:
            for call in (read_whole, read_signed):
                self.bad(call, row, at)

    def bad(self, call, row, at):
        with self.assertRaises(BadRow) as held:
            call(row, at)
        self.assertEqual(held.exception.place, at)

    def test_bad_rows(self):
        beyond = [slow_rows.whole(2 ** 64), slow_rows.whole(2 ** 64 + 1), slow_rows.whole(2 ** 69), (255,) * 9 + (2,)]
        needless = [(128, 0), (255, 0), (172, 130, 0), (128,) * 9 + (0,), (255,) * 8 + (0,)]
        longer = [(128,) * 10 + (1,), (128,) * 10 + (0,), (255,) * 10 + (127,), (255,) * 30, (128,) * 2000]
        ended = [(), (128,), (255,) * 9, (172,), (128,) * 10]
        for call in (read_whole, read_signed):
            for row in beyond + needless + longer + ended:
                self.bad(call, row, 0)
                self.bad(call, (0, 128, 1) + row, 3)
            for row in beyond + needless + longer:
                self.bad(call, row + (0, 1), 0)
            for many in (0, 1, 5):
                # the row's length is a place, but nothing stands there
                self.bad(call, (0,) * many, many)

    def test_signed_rows_beyond(self):
        for number in (2 ** 63 + 1, 2 ** 63 + 2, 2 ** 64 - 1):
            self.bad(read_signed, slow_rows.whole(number), 0)
            self.assertEqual(read_whole(slow_rows.whole(number), 0)[0], number)

    def test_no_row_then_no_place(self):
        places = odd_things() + [4, 5, 10 ** 20, -1, True, False, None, "0", (0,)]
        for call in (read_whole, read_signed):
            for thing in no_rows():
                for at in (0, 1, None, True, -1, 10 ** 9):
                    with self.assertRaises(NoRow):
                        call(thing, at)
            for at in places:
                for row in ((0, 1, 2), (128,) * 3):
                    with self.assertRaises(NoPlace):
                        call(row, at)
            self.assertEqual(call((0,) * 300000, 299999), (0, 300000))
            with self.assertRaises(NoPlace):
                call((), 1)


if __name__ == "__main__":
    unittest.main()

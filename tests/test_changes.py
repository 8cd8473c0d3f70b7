"""[5.3]: changes of rows."""

import random
import unittest

from allbrought.changes import change, changed, is_change
from allbrought.errors import BadChange, NoRow
from tests import slow_rows
from tests.slow_rows import wholes
from tests.things import no_rows

KEEP, LEAVE_OUT, PUT_IN = 0, 1, 2


def part(kind, many, put=()):
    return slow_rows.whole(3 * many + kind) + tuple(put)


def random_row(chance, many):
    return tuple(chance.randrange(256) for _ in range(many))


def pairs():
    """Pairs of rows: equal, near one another, far from one another, empty, long."""
    chance = random.Random(131)
    found = [((), ())]
    for many in (1, 2, 3, 10, 41, 42, 43, 200, 6000, 90000):
        row = random_row(chance, many)
        at = chance.randrange(many)
        found += [
            (row, row), (row, ()), ((), row), (row, random_row(chance, many)), (row, row[:at]), (row[:at], row),
            (row, row[at:]), (row[at:], row), (row, row[:at] + row[at + 1:]), (row[:at] + row[at + 1:], row),
            (row, row[:at] + (255 - row[at],) + row[at + 1:]), (row, row + row), (row + row, row), (row, row[::-1]),
            (row, row[:at] + random_row(chance, 5) + row[at:]), (row, (row[0],)), ((row[-1],), row),
        ]
    for _ in range(300):
        few = [tuple(chance.randrange(2) for _ in range(chance.randint(0, 6))) for _ in range(2)]
        found.append(tuple(few))
    return found


class Changed(unittest.TestCase):
    def test_by_hand(self):
        row = (10, 11, 12, 13, 14)
        for parts, expected in [
            ((), ()),
            ((15,), row),
            ((3,), (10,)),
            ((4, 3), (11,)),
            ((5, 77), (77,)),
            ((5, 128), (128,)),
            ((6, 8, 1, 2, 4, 6), (10, 11, 1, 2, 13, 14)),
            ((16,), ()),
            ((8, 7, 8, 15, 8, 9, 0), (7, 8) + row + (9, 0)),
            ((5, 1, 5, 2), (1, 2)),
            ((3, 4, 3, 4, 3), (10, 12, 14)),
        ]:
            self.assertEqual(changed(row, parts), expected)
        self.assertEqual(changed((), ()), ())
        self.assertEqual(changed((), (11, 1, 2, 3)), (1, 2, 3))

    def random_parts(self, chance, length):
        """Parts that are right for a row of this length, and now and then go one too far."""
        made, left = [], length + chance.choice((0, 0, 1))
        for _ in range(chance.randint(0, 6)):
            kind = chance.randrange(3)
            many = chance.randint(1, 200 if kind == PUT_IN else max(1, left))
            made.append(part(kind, many, random_row(chance, many) if kind == PUT_IN else ()))
            left -= 0 if kind == PUT_IN else many
        return made

    def test_changed(self):
        chance = random.Random(132)
        good = 0
        for _ in range(800):
            one = random_row(chance, chance.choice((0, 1, 2, 50, 300)))
            parts = sum(self.random_parts(chance, len(one)), ())
            if parts and chance.random() < 0.3:
                at = chance.randrange(len(parts))
                parts = chance.choice((parts[:at], parts[:at] + (chance.randrange(256),) + parts[at + 1:]))
            told = slow_rows.parts_of(one, parts)
            if isinstance(told, list):
                good += 1
                self.assertEqual(changed(one, parts), slow_rows.become(one, told))
            else:
                self.bad(one, parts, told)
        self.assertTrue(100 < good < 700, good)

    def bad(self, one, parts, place):
        with self.assertRaises(BadChange) as held:
            changed(one, parts)
        self.assertEqual(held.exception.place, place)
        self.assertIs(is_change(one, one, parts), False)

    def test_bad_changes(self):
        row = (9,) * 10
        ahead = [(), part(KEEP, 2), part(LEAVE_OUT, 3) + part(PUT_IN, 3, (0, 1, 2))]
        bad = [
            # a part of no byte
            (0,), (1,), (2,), (0, 3), (2, 5),
            # numbers that are no wholes
            (128,), (255, 255), (131, 0), (128,) * 11, slow_rows.whole(2 ** 64), (133, 0, 7),
            # bytes to put in that lack
            part(PUT_IN, 1), part(PUT_IN, 5, (1, 2, 3, 4)), part(PUT_IN, 300, (7,) * 299), part(PUT_IN, 2 ** 60, (1,)),
            # bytes beyond the row's end
            part(KEEP, 11), part(LEAVE_OUT, 11), part(KEEP, 2 ** 62), part(LEAVE_OUT, 2 ** 62),
        ]
        for begin in ahead:
            for parts in bad:
                self.bad(row, begin + parts, len(begin))
        for kind in (KEEP, LEAVE_OUT):
            self.bad(row, part(kind, 10) + part(kind, 1), 1)
            self.bad(row, part(kind, 4) + part(KEEP, 7), 1)
            self.bad((), part(kind, 1), 0)
        # what is put in is none of the row's bytes; the first bad part is told
        self.bad(row, part(PUT_IN, 2, (0, 0)) + part(KEEP, 10) + part(PUT_IN, 1, (5,)) + part(KEEP, 1) + (0,), 6)
        self.bad(row, part(KEEP, 11) + (0,), 0)

    def test_no_row(self):
        for thing in no_rows():
            with self.assertRaises(NoRow):
                changed(thing, ())
            with self.assertRaises(NoRow):
                changed(thing, (0,))
            with self.assertRaises(NoRow):
                changed((1, 2), thing)


class Change(unittest.TestCase):
    def test_change(self):
        for one, other in pairs():
            parts = change(one, other)
            self.assertTrue(slow_rows.is_row(parts))
            self.assertEqual(changed(one, parts), other)
            told = slow_rows.parts_of(one, parts)
            self.assertEqual(slow_rows.become(one, told), other)
            self.assertLessEqual(len(parts), len(other) + 11)
            if one == other:
                self.assertLessEqual(len(parts), 11)
            self.assertIs(is_change(one, other, parts), True)

    def test_the_longest_rows(self):
        one = (1, 2, 3) * 100000
        self.assertLessEqual(len(change(one, one)), 11)
        self.assertEqual(changed(one, change(one, one)), one)
        near = one[:150000] + (9,) + one[150001:]
        self.assertEqual(changed(one, change(one, near)), near)
        self.assertEqual(changed(one, change(one, ())), ())

    def test_no_row(self):
        for thing in no_rows():
            for one, other in ((thing, ()), ((), thing), (thing, None)):
                with self.assertRaises(NoRow):
                    change(one, other)
                with self.assertRaises(NoRow):
                    is_change(one, other, ())
                with self.assertRaises(NoRow):
                    is_change(one, other, None)


class IsChange(unittest.TestCase):
    def test_any_change_that_leads_there(self):
        one, other = (1, 2, 3, 4), (1, 9, 4)
        for parts in [
            part(PUT_IN, 3, other), part(KEEP, 1) + part(LEAVE_OUT, 2) + part(PUT_IN, 1, (9,)) + part(KEEP, 1),
            part(KEEP, 1) + part(PUT_IN, 1, (9,)) + part(LEAVE_OUT, 1) + part(LEAVE_OUT, 1) + part(KEEP, 1),
            part(PUT_IN, 3, other) + part(LEAVE_OUT, 4),
        ]:
            self.assertIs(is_change(one, other, parts), True)

    def test_what_leads_elsewhere_or_nowhere(self):
        one, other = (1, 2, 3, 4), (1, 9, 4)
        for parts in [
            (), part(KEEP, 4), part(PUT_IN, 2, (1, 9)), part(PUT_IN, 4, other + (0,)), part(KEEP, 5),
            part(PUT_IN, 3, other) + (0,), part(PUT_IN, 3, other) + part(KEEP, 1), part(PUT_IN, 3, other) + (128,),
            wholes(3, 4),
        ]:
            self.assertIs(is_change(one, other, parts), False)

    def test_odd_things(self):
        for thing in no_rows():
            self.assertIs(is_change((), (), thing), False)
            self.assertIs(is_change((1,), (2,), thing), False)
        self.assertIs(is_change((), (), ()), True)
        self.assertIs(is_change((1, 2), (), ()), True)
        self.assertIs(is_change((0,), (1,), [5, 1]), False)


if __name__ == "__main__":
    unittest.main()

"""The examples of the document, word for word."""

import unittest

from allbrought.bookrows import entry_row
from allbrought.disks import record
from allbrought.doing import cells_of, held, may_do
from allbrought.floors import Floor, barred, barring, cells, far, neighbours
from allbrought.marks import mark
from allbrought.pictures import drawn
from allbrought.plans import plan_of
from allbrought.rows import whole
from allbrought.steps import hangs_on, steps
from allbrought.texts import floor_text

floor = Floor(("H.S", "H.S"))
one = [("orders", ((0, 1),))]
two = one + [("orders", ((1, 1),))]


class Examples(unittest.TestCase):
    def test_e01(self):
        self.assertEqual(cells(floor), ((0, 0), (0, 1), (0, 2), (1, 0), (1, 1), (1, 2)))
        self.assertEqual(neighbours(floor, 1), (0, 2, 4))
        self.assertEqual(far(floor, 0, 0, 5), 3)

    def test_e02(self):
        self.assertEqual(barred(Floor(("HHS",))), (0, 0))
        self.assertEqual(barring(Floor(("HHS",)), 0, 0), (1,))

    def test_e03(self):
        expected = (((0, 0), (1, 1), (2, 2), (4, 5), (6, 2), (7, 1), (8, 0)), ((0, 3),))
        self.assertEqual(plan_of(floor, one).tracks, expected)
        self.assertEqual(plan_of(floor, one).jobs, ((0, 2, 4, 8),))

    def test_e04(self):
        self.assertEqual(steps(plan_of(floor, one), 0), (
            ("go", 1, 0, 1), ("go", 2, 1, 2), ("take", 3, 0), ("go", 4, 2, 5), ("put", 5, 0), ("go", 6, 5, 2),
            ("go", 7, 2, 1), ("go", 8, 1, 0),
        ))

    def test_e05(self):
        self.assertEqual(plan_of(floor, two).tracks[1], ((0, 3), (6, 4), (7, 5), (10, 4), (11, 3)))
        self.assertEqual(plan_of(floor, two).jobs[1], (1, 7, 8, 11))
        self.assertEqual(hangs_on(plan_of(floor, two), (1, 1)), ((0, 5), (1, 0)))

    def test_e06(self):
        plan = plan_of(floor, two)
        self.assertEqual(may_do(plan, (0, 0)), (0, 1))
        self.assertEqual(held(plan, (0, 0), (0,)), ((0, 1), (3,)))
        self.assertEqual(cells_of(plan, (2, 1)), (2, 4))

    def test_e07(self):
        self.assertEqual(whole(300), (172, 2))
        self.assertEqual(mark((7,)), 1000011)
        self.assertEqual(entry_row(("orders", ((0, 1),))), (1, 1, 0, 1))
        self.assertEqual(record((7, 8)), (2, 7, 8))

    def test_e08(self):
        self.assertEqual(drawn(floor, ((0, 1), (3,)), (None, None)), "00S\n1.S\n")
        self.assertEqual(floor_text(floor), "H.S\nH.S\n")


if __name__ == "__main__":
    unittest.main()

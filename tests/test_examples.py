"""The examples of the document, word for word."""

import unittest

from allbrought.floors import Floor, barred, barring, cells, far, neighbours
from allbrought.plans import plan_of

floor = Floor(("H.S", "H.S"))
one = [("orders", ((0, 1),))]
two = one + [("orders", ((1, 1),))]


class Examples(unittest.TestCase):
    def test_e01(self):
        self.assertEqual(cells(floor), ((0, 0), (0, 1), (0, 2), (1, 0), (1, 1), (1, 2)))
        self.assertEqual(neighbours(floor, 1), (0, 2, 4))
        self.assertEqual(far(floor, 0, 0, 5), 3)

    def test_e02(self):
        self.assertEqual(barred(Floor(("HHS",))), (0, 0))
        self.assertEqual(barring(Floor(("HHS",)), 0, 0), (1,))

    def test_e03(self):
        expected = (((0, 0), (1, 1), (2, 2), (4, 5), (6, 2), (7, 1), (8, 0)), ((0, 3),))
        self.assertEqual(plan_of(floor, one).tracks, expected)
        self.assertEqual(plan_of(floor, one).jobs, ((0, 2, 4, 8),))

    def test_e05_tracks_and_jobs(self):
        self.assertEqual(plan_of(floor, two).tracks[1], ((0, 3), (6, 4), (7, 5), (10, 4), (11, 3)))
        self.assertEqual(plan_of(floor, two).jobs[1], (1, 7, 8, 11))


if __name__ == "__main__":
    unittest.main()

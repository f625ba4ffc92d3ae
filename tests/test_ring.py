"""ring, and the names of rings."""

import unittest
from math import gcd

from fewchanges.closing import name_of, other_share, ring_of
from tests.helper import TURN, behind


class RingTest(unittest.TestCase):
    def test_ordinary_rings(self):
        self.assertEqual(behind([3], "ring"), [[0, 3, 1]])
        self.assertEqual(behind([-3], "ring"), [[0, 3, 2]])
        self.assertEqual(behind([3, TURN, 2], "ring"), [[0, 5, 2]])
        self.assertEqual(behind([5, TURN, 2], "ring"), [[0, 9, 2]])

    def test_of_a_fraction_below_0_the_share_is_of_the_lower_number_with_the_other_sign(self):
        self.assertEqual(behind([3, TURN, -2], "comes", "ring"), [[0, -7, 3], [0, 7, 2]])
        self.assertEqual(behind([3, TURN, 2, TURN, -4, TURN, -1], "comes", "ring"), [[0, -18, 23], [0, 18, 7]])

    def test_a_lower_number_above_the_upper_one(self):
        self.assertEqual(behind([3, TURN, 1, TURN, 2], "comes", "ring"), [[0, 1, 2], [0, 1, 0]])
        self.assertEqual(behind([5, TURN, 2, TURN, 1], "comes", "ring"), [[0, 4, 9], [0, 4, 1]])

    def test_size_0(self):
        self.assertEqual(behind([], "ring"), [[0, 0, 0]])
        self.assertEqual(behind([4, -4], "ring"), [[0, 0, 0]])
        self.assertEqual(behind([TURN, TURN], "ring"), [[0, 0, 0]])

    def test_size_1(self):
        self.assertEqual(behind([1], "ring"), [[0, 1, 0]])
        self.assertEqual(behind([-1], "ring"), [[0, 1, 0]])
        self.assertEqual(behind([6, TURN], "ring"), [[0, 1, 0]])

    def test_the_endless_one_is_one_ring(self):
        self.assertEqual(behind([TURN], "ring"), [[0, 1, 0]])
        self.assertEqual(behind([TURN, 6], "ring"), [[0, 1, 0]])

    def test_the_ring_changes_nothing(self):
        self.assertEqual(behind([3, TURN, 2], "ring", "comes", "ring", "crossings"),
                         [[0, 5, 2], [0, 5, 3], [0, 5, 2], [5]])

    def test_every_name_of_small_sizes(self):
        for size in range(1, 60):
            for share in range(size):
                if gcd(size, share) == 1:
                    others = [other for other in range(size) if other * share % size == 1 % size]
                    self.assertEqual([other_share(size, share)], others)
                    self.assertEqual(name_of((size, share)), (size, min(share, others[0])))

    def test_rings_of_fractions(self):
        self.assertEqual(ring_of((0, 1)), (0, 0))
        self.assertEqual(ring_of((1, 0)), (1, 0))
        self.assertEqual(ring_of((7, 10)), (7, 3))
        self.assertEqual(ring_of((-7, 10)), (7, 4))


if __name__ == "__main__":
    unittest.main()

"""bound: undone already, by one change in some drawing, or neither."""

import unittest
from itertools import product
from math import gcd

from fewchanges.closing import is_undone_by_one
from tests.helper import TURN, ask, behind


def slowly_undone_by_one(size, share):
    """By the words alone: all m and n that can come in question, one by one."""
    if size % 2 == 0 or size == 1:
        return False
    for m in range(1, size + 1):
        for n in range(1, size + 1):
            if gcd(m, n) == 1 and 2 * m * n in (size - 1, size + 1):
                if 2 * n * n % size in (share, size - share):
                    return True
    return False


class BoundTest(unittest.TestCase):
    def test_0_of_size_1(self):
        for row in ([1], [-1], [TURN], [TURN, 6], [6, TURN], [3, TURN, 1, TURN, 2], [3, -2]):
            with self.subTest(row=row):
                self.assertEqual(behind(row, "bound"), [[0]])

    def test_1_by_one_change(self):
        for row in ([3], [-3], [3, TURN, 2], [3, TURN, -2], [-3, TURN, 2], [6, TURN, -2], [3, TURN, 1, TURN, -3]):
            with self.subTest(row=row):
                self.assertEqual(behind(row, "undone", "bound"), [[1], [1]])

    def test_2_by_more(self):
        self.assertEqual(behind([5], "undone", "bound"), [[2], [2]])
        self.assertEqual(behind([-5], "undone", "bound"), [[2], [2]])
        self.assertEqual(behind([6, 1], "undone", "bound"), [[3], [2]])
        self.assertEqual(behind([4, TURN, -3], "ring", "undone", "bound"), [[0, 13, 3], [2], [2]])

    def test_2_of_two_rings(self):
        self.assertEqual(ask("start", "bound"), [[0], [2]])
        self.assertEqual(behind([3, -3], "bound"), [[2]])
        self.assertEqual(behind([2], "bound"), [[2]])
        self.assertEqual(behind([-4], "bound"), [[2]])
        self.assertEqual(behind([2, TURN, 3, TURN, -2], "ring", "bound"), [[0, 12, 7], [2]])

    def test_1_where_this_drawing_needs_two(self):
        self.assertEqual(behind([3, TURN, 4], "comes", "undone", "bound"), [[0, 11, 3], [2], [1]])
        self.assertEqual(behind([-4, TURN, -3], "comes", "undone", "bound"), [[0, -11, 4], [2], [1]])
        self.assertEqual(behind([-5, TURN, -2, TURN, 2], "comes", "undone", "bound"), [[0, 23, 9], [2], [1]])

    def test_the_share_and_not_the_size_alone(self):
        self.assertEqual(behind([6, TURN, -2], "ring", "bound"), [[0, 13, 2], [1]])
        self.assertEqual(behind([4, TURN, -3], "ring", "bound"), [[0, 13, 3], [2]])

    def test_it_changes_nothing(self):
        self.assertEqual(behind([3, TURN, 2], "undone", "bound", "way", "state", "comes"),
                         [[1], [1], [3, 1, 0, 0], [3, 5, 1], [0, 5, 3]])


class EveryRingTest(unittest.TestCase):
    def test_every_ring_of_small_sizes(self):
        for size in range(1, 72):
            for share in range(size):
                if gcd(size, share) == 1:
                    self.assertEqual(is_undone_by_one((size, share)), slowly_undone_by_one(size, share), (size, share))
        self.assertFalse(is_undone_by_one((0, 0)))

    def test_what_one_change_undoes_has_a_bound_of_1(self):
        seen = {0: 0, 1: 0, 2: 0}
        numbers = (-5, -2, -1, 1, 2, 3, 6)
        rows = [[a, TURN, b] for a, b in product(numbers, repeat=2)]
        rows += [[a, TURN, b, TURN, c] for a, b, c in product(numbers, repeat=3)]
        rows += [[a, TURN, b, TURN, c, TURN, d] for a, b, c, d in product((-3, 1, 2, 4), repeat=4)]
        for row in rows:
            ring, undone, bound = behind(row, "ring", "undone", "bound")
            seen[bound[0]] += 1
            if ring[1] == 1:
                self.assertEqual((undone, bound), ([0], [0]), row)
            elif ring[1] % 2 == 1 and undone == [1]:
                self.assertEqual(bound, [1], row)
            elif ring[1] < 60:
                self.assertEqual(bound, [1 if slowly_undone_by_one(*ring[1:]) else 2], row)
        self.assertGreater(min(seen.values()), 20)


if __name__ == "__main__":
    unittest.main()

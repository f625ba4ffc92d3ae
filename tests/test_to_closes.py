"""to and closes, and the way that they keep."""

import unittest
from itertools import product
from math import gcd

from tests.helper import TURN, ask, behind, slow_name, slowly, way_behind

# What these come to is told in the tests that use them.
RING_OF_400 = [3, TURN, -6, -3, TURN, 1, TURN, -6, -6]
RING_OF_401 = [-6, TURN, -5, TURN, 3, TURN, -4]
SOME_ROWS = ([], [TURN], [3, TURN, -2], [4, TURN, 3], [-2, -3, TURN, TURN, 4], [2, TURN, -3, TURN, 2],
             [-3, TURN, 2, TURN, -1, TURN, 2])


class ToTest(unittest.TestCase):
    def test_fractions_above_0(self):
        self.assertEqual(behind([3, TURN, 2], "to 5 3", "way"), [[0], [3, 0, 0, 0]])
        self.assertEqual(behind([3, TURN, 2], "to 1 1", "way"), [[1], [3, 1, 0, 0]])
        self.assertEqual(behind([3, TURN, 2], "to 7 3", "way"), [[3], [3, 3, 0, 0]])

    def test_fractions_below_0(self):
        self.assertEqual(behind([3, TURN, 2], "to -1 3", "way"), [[1], [3, 0, 0, 1]])
        self.assertEqual(behind([3, TURN, 2], "to -7 3", "way"), [[2], [3, 0, 0, 2]])
        self.assertEqual(behind([-5], "to -1 1", "to -5 1"), [[2], [0]])

    def test_the_sign_is_part_of_the_fraction(self):
        self.assertEqual(behind([3], "to 1 1", "way", "to -1 1", "way"), [[1], [1, 1], [2], [1, 2]])
        self.assertEqual(behind([3, TURN], "to 1 3", "to -1 3"), [[3], [0]])

    def test_the_endless_one(self):
        self.assertEqual(behind([TURN, 4], "to 1 0", "way"), [[0], [2, 0, 0]])
        self.assertEqual(behind([4, TURN], "to 1 0", "way"), [[2], [2, 2, 0]])
        self.assertEqual(behind([3], "to 1 0"), [[-33]])

    def test_the_flat_one(self):
        self.assertEqual(behind([], "to 0 1", "way"), [[0], [0]])
        self.assertEqual(behind([2, -1, 1], "to 0 1", "way"), [[1], [3, 1, 0, 0]])
        self.assertEqual(behind([TURN], "to 0 1"), [[-33]])

    def test_four_changes_and_four_too_few(self):
        self.assertEqual(behind([6, 2], "to 0 1", "way"), [[4], [2, 4, 0]])
        self.assertEqual(behind([6, 4], "to 0 1", "to 2 1"), [[-33], [4]])
        self.assertEqual(behind([3, TURN, 2], "to 2 3"), [[-33]])

    def test_it_changes_no_figure(self):
        self.assertEqual(behind([3, TURN, 2], "to 1 1", "figures", "comes"), [[1], [3, 3, 0, 2], [0, 5, 3]])

    def test_9999_and_10000_above(self):
        # One figure of 3 comes to none of these by any changes, so that what is taken is answered by -33.
        self.assertEqual(behind([3], "to 9999 1", "to -9999 1", "to 10000 1", "to -10000 1"),
                         [[-33], [-33], [-22], [-22]])
        self.assertEqual(behind([3], "to 9999 10", "to -9999 10", "to 10000 9", "to -10000 9"),
                         [[-33], [-33], [-22], [-22]])

    def test_9999_and_10000_below(self):
        self.assertEqual(behind([3], "to 1 9999", "to -1 9999", "to 1 10000", "to -1 10000"),
                         [[-33], [-33], [-22], [-22]])
        self.assertEqual(behind([3], "to 9998 9999", "to -9998 9999", "to 9999 10000", "to 10000 9999"),
                         [[-33], [-33], [-22], [-22]])

    def test_what_it_comes_to_may_be_told_just_up_to_9999(self):
        self.assertEqual(behind([-6, TURN, 6, 5, TURN, -4, TURN, 6, TURN, 6], "comes", "to 9992 1711"),
                         [[0, 9992, 1711], [0]])
        self.assertEqual(behind([-6, TURN, 6, 6, TURN, -4, TURN, -6, TURN, -6], "comes", "to -9992 1715"),
                         [[0, -9992, 1715], [0]])
        self.assertEqual(behind([-6, TURN, 6, 6, TURN, 6, TURN, 5, TURN, 5], "comes", "to 10003 2087"),
                         [[0, 10003, 2087], [-22]])
        self.assertEqual(behind([6, TURN, -6, -6, TURN, -6, TURN, -5, TURN, -5], "comes", "to -10003 2087"),
                         [[0, -10003, 2087], [-22]])

    def test_no_fraction_as_told(self):
        for text in ("0 0", "0 2", "2 0", "-1 0", "-2 0", "2 2", "-2 4", "6 9", "-9 6", "9999 9999", "9999 9",
                     "0 9999", "9999 0"):
            with self.subTest(text=text):
                self.assertEqual(behind([3, TURN, 2], f"to {text}"), [[-22]])

    def test_both_ends_of_what_may_be_handed_over(self):
        for p in (-2147483648, 0, 2147483647):
            for q in (0, 1, 4294967295):
                if (p, q) != (0, 1):
                    with self.subTest(p=p, q=q):
                        self.assertEqual(behind([3], f"to {p} {q}"), [[-22]])

    def test_not_as_told_is_refused_first_and_keeps_the_way(self):
        for text in ("to 10000 1", "to 2 2", "to -1 0", "to 1 4294967295"):
            with self.subTest(text=text):
                self.assertEqual(behind([3], "undone", text, "way", "state", "figures"),
                                 [[1], [-22], [1, 1], [1, 3, 1], [1, 3]])

    def test_every_fraction_of_small_numbers(self):
        for row in SOME_ROWS:
            for p, q in [(p, q) for p, q in product(range(-9, 10), range(10)) if gcd(p, q) == 1 and (p, q) != (-1, 0)]:
                fewest, way = slowly(row, lambda fraction: fraction == (p, q))
                self.assertEqual((behind(row, f"to {p} {q}"), way_behind(row, f"to {p} {q}")), ([[fewest]], way),
                                 (row, p, q))


class ClosesTest(unittest.TestCase):
    def test_a_name_and_its_other_share(self):
        self.assertEqual(behind([3, TURN, -2], "ring", "closes 7 2", "closes 7 4", "way"),
                         [[0, 7, 2], [0], [0], [3, 0, 0, 0]])
        self.assertEqual(behind([-6, TURN, -2], "ring", "closes 11 5", "closes 11 9"), [[0, 11, 5], [0], [0]])

    def test_its_mirror_is_another_one(self):
        self.assertEqual(behind([3, TURN, -2], "closes 7 3", "closes 7 5"), [[-33], [-33]])
        self.assertEqual(behind([3], "closes 3 1", "way", "closes 3 2", "way"), [[0], [1, 0], [3], [1, 3]])
        self.assertEqual(behind([-3], "closes 3 1", "way", "closes 3 2", "way"), [[3], [1, 3], [0], [1, 0]])

    def test_by_some_changes(self):
        self.assertEqual(behind([5], "closes 3 1", "way"), [[1], [1, 1]])
        self.assertEqual(behind([3, TURN, 2], "closes 3 1", "way", "closes 7 4", "way"),
                         [[2], [3, 2, 0, 0], [2], [3, 0, 0, 2]])

    def test_size_0(self):
        self.assertEqual(behind([2], "closes 0 0", "way"), [[1], [1, 1]])
        self.assertEqual(behind([], "closes 0 0", "way"), [[0], [0]])
        self.assertEqual(behind([3], "closes 0 0", "closes 0 1", "closes 0 4294967295"), [[-33], [-22], [-22]])

    def test_size_1(self):
        self.assertEqual(behind([3], "closes 1 0", "way", "closes 1 1"), [[1], [1, 1], [-22]])
        self.assertEqual(behind([TURN, 6], "closes 1 0", "way"), [[0], [2, 0, 0]])
        self.assertEqual(behind([-1], "closes 1 0"), [[0]])

    def test_size_2(self):
        self.assertEqual(behind([4], "closes 2 1", "way", "closes 2 0", "closes 2 2"), [[1], [1, 1], [-22], [-22]])

    def test_sizes_of_400_and_401(self):
        self.assertEqual(behind(RING_OF_400, "comes", "closes 400 369", "closes 400 129", "closes 400 31"),
                         [[0, -400, 31], [0], [0], [-33]])
        self.assertEqual(behind(RING_OF_401, "comes", "closes 401 308", "closes 401 69", "closes 400 399"),
                         [[0, -401, 93], [-22], [-22], [-33]])

    def test_a_share_that_is_not_as_told(self):
        for text in ("3 0", "3 3", "3 4", "4 2", "6 3", "9 6", "400 0", "400 2", "400 400", "400 401"):
            with self.subTest(text=text):
                self.assertEqual(behind([3], f"closes {text}"), [[-22]])

    def test_both_ends_of_what_may_be_handed_over(self):
        for text in ("4294967295 0", "0 4294967295", "4294967295 4294967295", "4294967295 1", "3 4294967295",
                     "1 4294967295", "4294967295 4294967294"):
            with self.subTest(text=text):
                self.assertEqual(behind([3], f"closes {text}"), [[-22]])
        self.assertEqual(behind([TURN], "closes 0 0", "closes 1 0"), [[-33], [0]])

    def test_it_changes_no_figure(self):
        self.assertEqual(behind([5], "closes 3 1", "figures", "comes"), [[1], [1, 5], [0, 5, 1]])

    def test_not_as_told_is_refused_first_and_keeps_the_way(self):
        for text in ("closes 401 1", "closes 0 1", "closes 1 1", "closes 9 3", "closes 4294967295 1"):
            with self.subTest(text=text):
                self.assertEqual(behind([3], "undone", text, "way", "state", "figures"),
                                 [[1], [-22], [1, 1], [1, 3, 1], [1, 3]])

    def test_every_ring_of_small_sizes(self):
        for row in SOME_ROWS:
            for size, share in [(0, 0)] + [(a, b) for a in range(1, 14) for b in range(a) if gcd(a, b) == 1]:
                # A size and a share are also the ring of the fraction that has the size above.
                wished = slow_name((size, share))
                fewest, way = slowly(row, lambda fraction: slow_name(fraction) == wished)
                text = f"closes {size} {share}"
                self.assertEqual((behind(row, text), way_behind(row, text)), ([[fewest]], way), (row, text))


class TooFewTest(unittest.TestCase):
    def test_refused_answers_are_their_number_alone(self):
        self.assertEqual(ask("start", "to 1 1", "closes 3 1", "to 1 2147483648", "closes 401 0"),
                         [[0], [-33], [-33], [-22], [-22]])


if __name__ == "__main__":
    unittest.main()

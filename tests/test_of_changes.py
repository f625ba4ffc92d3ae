"""ways, results and rings: how many ways of t changes there are, and what comes of them."""

import unittest
from itertools import product

from fewchanges.ways import ways_with_fractions
from tests.helper import TURN, ask, behind, every_choice, slow_name

# The edges of t, above 4 and at the end of what may be handed over.
TOO_MANY = (5, 6, 4294967295)


def by_t(row, name):
    """The answers of a call on the row for t from 0 to 4."""
    return behind(row, *[f"{name} {t}" for t in range(5)])


class WaysTest(unittest.TestCase):
    def test_t_from_0_to_4(self):
        self.assertEqual(by_t([3, TURN, 2], "ways"), [[1], [2], [3], [3], [2]])
        self.assertEqual(by_t([2, TURN, -1, 3], "ways"), [[1], [3], [5], [6], [5]])
        self.assertEqual(by_t([-6, TURN, 6], "ways"), [[1], [2], [3], [4], [5]])

    def test_ten_figures_of_six(self):
        self.assertEqual(by_t([6] * 10, "ways"), [[1], [10], [55], [220], [715]])
        self.assertEqual(by_t([-6, 6] * 5, "ways"), [[1], [10], [55], [220], [715]])

    def test_no_figures_and_turns_alone(self):
        self.assertEqual(by_t([], "ways"), [[1], [0], [0], [0], [0]])
        self.assertEqual(by_t([TURN] * 10, "ways"), [[1], [0], [0], [0], [0]])

    def test_more_changes_than_there_are_half_twists(self):
        self.assertEqual(by_t([1], "ways"), [[1], [1], [0], [0], [0]])
        self.assertEqual(by_t([TURN, -2, TURN, 1], "ways"), [[1], [2], [2], [1], [0]])
        self.assertEqual(by_t([4], "ways"), [[1]] * 5)


class ResultsTest(unittest.TestCase):
    def test_t_from_0_to_4(self):
        self.assertEqual(by_t([3, TURN, 2], "results"), [[1], [2], [3], [3], [2]])
        self.assertEqual(by_t([2, TURN, 3, TURN, -2], "results"), [[1], [3], [5], [7], [7]])

    def test_fractions_that_come_of_several_ways_count_once(self):
        self.assertEqual(by_t([6] * 10, "results"), [[1]] * 5)
        self.assertEqual(by_t([2, TURN, -1, 3], "results"), [[1], [3], [4], [5], [4]])
        # Changes of either sign: each number of half twists comes of many ways.
        self.assertEqual(by_t([3, -3], "results"), [[1], [2], [3], [4], [3]])

    def test_fractions_of_one_name_count_apart(self):
        self.assertEqual(behind([3, TURN, 2], "results 1", "rings 1"), [[2], [1, 1, 0]])

    def test_no_figures_and_turns_alone(self):
        self.assertEqual(by_t([], "results"), [[1], [0], [0], [0], [0]])
        self.assertEqual(by_t([TURN, TURN], "results"), [[1], [0], [0], [0], [0]])

    def test_more_changes_than_there_are_half_twists(self):
        self.assertEqual(by_t([1, TURN, 2], "results"), [[1], [2], [2], [1], [0]])


class RingsTest(unittest.TestCase):
    def test_t_from_0_to_4_in_the_order_in_which_they_first_come(self):
        self.assertEqual(by_t([3, TURN, 2], "rings"),
                         [[1, 5, 2], [1, 1, 0], [3, 3, 1, 1, 0, 7, 2], [3, 7, 3, 1, 0, 3, 2], [1, 1, 0]])
        self.assertEqual(by_t([3, TURN, 4], "rings"),
                         [[1, 11, 3], [2, 3, 1, 5, 2], [2, 5, 1, 1, 0], [4, 13, 3, 3, 1, 1, 0, 7, 2],
                          [4, 7, 3, 1, 0, 3, 2, 13, 4]])

    def test_size_0_and_size_1(self):
        self.assertEqual(by_t([4], "rings"), [[1, 4, 1], [1, 2, 1], [1, 0, 0], [1, 2, 1], [1, 4, 3]])
        self.assertEqual(by_t([-3], "rings"), [[1, 3, 2], [1, 1, 0], [1, 1, 0], [1, 3, 1], [0]])

    def test_no_figures_and_turns_alone(self):
        self.assertEqual(by_t([], "rings"), [[1, 0, 0], [0], [0], [0], [0]])
        self.assertEqual(by_t([TURN], "rings"), [[1, 1, 0], [0], [0], [0], [0]])

    def test_more_changes_than_there_are_half_twists(self):
        self.assertEqual(by_t([1, TURN, 2], "rings"), [[1, 1, 0], [2, 3, 1, 1, 0], [2, 1, 0, 3, 2], [1, 1, 0], [0]])

    def test_of_no_changes_there_is_the_ring_itself(self):
        for row in ([5, TURN, -2], [2, TURN, 2, TURN, 2], [TURN, TURN]):
            ring, rings = behind(row, "ring", "rings 0")
            self.assertEqual(rings, [1] + ring[1:])


class RefusedTest(unittest.TestCase):
    def test_t_above_4(self):
        for name, t in product(("ways", "results", "rings"), TOO_MANY):
            with self.subTest(name=name, t=t):
                self.assertEqual(behind([3], f"{name} {t}"), [[-22]])
                self.assertEqual(ask("start", f"{name} {t}"), [[0], [-22]])

    def test_they_and_their_refusals_change_nothing(self):
        for name, t in product(("ways", "results", "rings"), range(6)):
            with self.subTest(name=name, t=t):
                self.assertEqual(behind([3, TURN, 2], "undone", f"{name} {t}", "way", "state", "figures", "comes")[2:],
                                 [[3, 1, 0, 0], [3, 5, 1], [3, 3, 0, 2], [0, 5, 3]])


class EveryChoiceTest(unittest.TestCase):
    """Each way changes just so many, and is told once."""

    ROWS = ([], [TURN], [1], [-2], [6, 3], [3, -3], [2, TURN, -1, 3], [-4, TURN, 3, TURN, 2], [TURN, 3, TURN, TURN, -5],
            [2, 2, TURN, -2, -2, TURN, 2], [1, -1, 1, -1, TURN, 1, -1, 1, -1], [3, TURN, -3, TURN, 3, TURN, -3])

    def test_ways_changes_and_order(self):
        for row, t in product(self.ROWS, range(5)):
            choices = every_choice(row, t)
            figures = [0 if figure == TURN else figure for figure in row]
            told = ways_with_fractions(figures, t)
            self.assertEqual(told, list(choices.items()), (row, t))
            for way, fraction in told:
                self.assertEqual(sum(way), t)
                self.assertEqual(len(way), len(row))

    def test_how_many_and_what_comes_of_them(self):
        for row, t in product(self.ROWS, range(5)):
            fractions = list(every_choice(row, t).values())
            names = list(dict.fromkeys(slow_name(fraction) for fraction in fractions))
            told = [len(names)] + [number for name in names for number in name]
            self.assertEqual(behind(row, f"ways {t}", f"results {t}", f"rings {t}"),
                             [[len(fractions)], [len(set(fractions))], told], (row, t))


if __name__ == "__main__":
    unittest.main()

"""What holds over the whole program, by trying all ways; and the corners."""

import unittest
from itertools import product

from tests.helper import TURN, ask, behind, every_choice, slow_name

NUMBERS = (-4, -1, 2, 3)
ROWS = ([[], [TURN], [TURN, TURN]] + [[a] for a in range(-6, 7) if a != 0]
        + [[a, TURN, b] for a, b in product((-5, -2, 1, 3, 4), repeat=2)]
        + [[a, TURN, b, TURN, c] for a, b, c in product(NUMBERS, repeat=3)]
        + [[2, -3, TURN, 1, TURN, TURN, -4], [TURN, 3, 3, TURN, -2, TURN], [1, TURN, -1, TURN, 2, TURN, -2, TURN, 3]])


class WhatHoldsTest(unittest.TestCase):
    """No fewer changes do it, the way told does, and it is the first one of so many."""

    def check(self, row, text, is_wished):
        choices = [every_choice(row, t) for t in range(5)]
        found, way, figures, done = behind(row, text, "way", "figures", "do")
        self.assertEqual(figures, [len(row)] + [0 if figure == TURN else figure for figure in row])
        if found == [-33]:
            self.assertEqual((way, done), ([-6], [-6]), (row, text))
            self.assertFalse([told for by_way in choices for told in by_way.values() if is_wished(told)], (row, text))
            return
        self.assertEqual((way[0], sum(way[1:])), (len(row), found[0]), (row, text))
        for t in range(found[0]):
            self.assertFalse([told for told in choices[t].values() if is_wished(told)], (row, text))
        first = [told for told, fraction in choices[found[0]].items() if is_wished(fraction)][0]
        self.assertEqual(way[1:], list(first), (row, text))
        self.assertEqual(done, [0] + list(choices[found[0]][first]), (row, text))

    def test_undone(self):
        for row in ROWS:
            self.check(row, "undone", lambda fraction: abs(fraction[0]) == 1)

    def test_split(self):
        for row in ROWS:
            self.check(row, "split", lambda fraction: fraction[0] == 0)

    def test_flat(self):
        for row in ROWS:
            self.check(row, "flat", lambda fraction: fraction == (0, 1))

    def test_to(self):
        for row in ROWS:
            for wished in ((0, 1), (1, 0), (1, 1), (-1, 1), (-1, 3), (5, 2), (-7, 3), (2, 1)):
                self.check(row, f"to {wished[0]} {wished[1]}", lambda fraction: fraction == wished)

    def test_closes(self):
        for row in ROWS:
            for ring in ((0, 0), (1, 0), (2, 1), (3, 1), (3, 2), (5, 3), (7, 4), (8, 5)):
                name = slow_name(ring)
                self.check(row, f"closes {ring[0]} {ring[1]}", lambda fraction: slow_name(fraction) == name)

    def test_undone_they_close_to_one_ring_of_size_1(self):
        for row in ROWS:
            if behind(row, "undone") != [[-33]]:
                self.assertEqual(behind(row, "undone", "do", "ring", "bound", "undone")[2:], [[0, 1, 0], [0], [0]], row)

    def test_what_one_change_undoes_is_told_to_be_undone_by_one(self):
        seen = 0
        for row in ROWS:
            ring, undone, bound = behind(row, "ring", "undone", "bound")
            if undone == [1] and ring[1] % 2 == 1:
                seen += 1
                self.assertEqual(bound, [1], row)
        self.assertGreater(seen, 20)

    def test_each_way_changes_just_so_many_and_is_told_once(self):
        for row in ROWS:
            told = behind(row, *[f"ways {t}" for t in range(5)])
            self.assertEqual(told, [[len(every_choice(row, t))] for t in range(5)], row)


class CornersTest(unittest.TestCase):
    def test_no_figures(self):
        self.assertEqual(
            ask("start", "comes", "ring", "crossings", "undone", "split", "flat", "to 0 1", "to 1 0", "closes 0 0",
                "closes 1 0", "ways 0", "ways 1", "results 0", "results 1", "rings 0", "rings 1", "way", "do", "bound",
                "figures", "state", "off", "change 0 0"),
            [[0], [0, 0, 1], [0, 0, 0], [0], [-33], [0], [0], [0], [-33], [0],
             [-33], [1], [0], [1], [0], [1, 0, 0], [0], [-6], [-6], [2],
             [0], [0, 0, 0], [-6], [-2]])

    def test_turns_alone(self):
        self.assertEqual(
            behind([TURN] * 3, "comes", "ring", "crossings", "split", "flat", "to 1 0", "closes 1 0", "ways 0", "ways 1",
                   "results 0", "rings 0", "bound", "undone", "way", "figures", "state", "do"),
            [[0, 1, 0], [0, 1, 0], [0], [-33], [-33], [0], [0], [1], [0],
             [1], [1, 1, 0], [0], [0], [3, 0, 0, 0], [3, 0, 0, 0], [3, 0, 1], [0, 1, 0]])

    def test_nothing_to_change(self):
        self.assertEqual(behind([3, TURN, 1, TURN, 2], "comes", "undone", "way", "do", "figures"),
                         [[0, 1, 2], [0], [5, 0, 0, 0, 0, 0], [0, 1, 2], [5, 3, 0, 1, 0, 2]])

    def test_a_figure_changed_wholly(self):
        self.assertEqual(behind([4, TURN, 3], "to 7 4", "to 13 4", "way", "do", "figures"),
                         [[-33], [4], [3, 4, 0, 0], [0, 13, 4], [3, -4, 0, 3]])

    def test_one_of_which_half_is_left_out(self):
        self.assertEqual(behind([3, TURN, 4, TURN, -2], "to 1 1", "way", "do", "figures", "state"),
                         [[2], [5, 0, 0, 2, 0, 0], [0, 1, 1], [4, 3, 0, 0, -2], [4, 5, 0]])

    def test_a_way_of_four(self):
        self.assertEqual(behind([6, 3], "undone", "way", "do", "figures"), [[4], [2, 4, 0], [0, 1, 1], [2, -2, 3]])

    def test_undone_by_two_and_not_by_one(self):
        self.assertEqual(behind([5], "undone", "way", "bound"), [[2], [1, 2], [2]])

    def test_a_bound_of_1_where_this_drawing_needs_two(self):
        self.assertEqual(behind([3, TURN, 4], "undone", "way", "bound", "do", "bound"),
                         [[2], [3, 1, 0, 1], [1], [0, 1, 1], [0]])


if __name__ == "__main__":
    unittest.main()

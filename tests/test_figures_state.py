"""figures and state, behind each other call that changes something."""

import unittest

from tests.helper import TURN, ask, behind

# A row, a call on it, and figures and state then.
CHANGING = (
    ([3, TURN], "start", [0], [0, 0, 0]),
    ([3, TURN], "twist 6", [3, 3, 0, 6], [3, 9, 0]),
    ([3, TURN], "twist -6", [3, 3, 0, -6], [3, 9, 0]),
    ([-3, 1], "turn", [3, -3, 1, 0], [3, 4, 0]),
    ([3, TURN], "off", [1, 3], [1, 3, 0]),
    ([3, TURN, -2], "off", [2, 3, 0], [2, 3, 0]),
    ([3, TURN, -4], "change 2 1", [3, 3, 0, -2], [3, 5, 0]),
    ([3, TURN, -4], "change 0 3", [3, -3, 0, -4], [3, 7, 0]),
    ([3, TURN, -4], "change 2 2", [2, 3, 0], [2, 3, 0]),
    ([3, TURN, -4], "change 1 0", [3, 3, 0, -4], [3, 7, 0]),
    ([3, TURN, 2], "undone", [3, 3, 0, 2], [3, 5, 1]),
    ([2, TURN, TURN], "split", [3, 2, 0, 0], [3, 2, 1]),
    ([-6], "flat", [1, -6], [1, 6, 1]),
    ([3, TURN], "to -1 1", [2, 3, 0], [2, 3, 1]),
    ([5], "closes 3 1", [1, 5], [1, 5, 1]),
    ([3], "split", [1, 3], [1, 3, 0]),
    ([3], "to 2 1", [1, 3], [1, 3, 0]),
    ([3], "do", [1, 3], [1, 3, 0]),
)


class FiguresAndStateTest(unittest.TestCase):
    def test_behind_each_call_that_changes_something(self):
        for row, text, figures, state in CHANGING:
            with self.subTest(row=row, text=text):
                self.assertEqual(behind(row, text, "figures", "state")[1:], [figures, state])

    def test_behind_each_of_them_where_a_way_was_kept(self):
        for row, text, figures, state in CHANGING:
            with self.subTest(row=row, text=text):
                # To what it comes to already there is always a way.
                upper, lower = behind(row, "comes")[0][1:]
                told = behind(row, f"to {upper} {lower}", "state", text, "figures", "state")
                self.assertEqual(told[1][2], 1)
                self.assertEqual(told[3:], [figures, state])

    def test_behind_do(self):
        self.assertEqual(behind([3, TURN, 2], "undone", "do", "figures", "state"),
                         [[1], [0, 1, 1], [3, 1, 0, 2], [3, 3, 0]])
        self.assertEqual(behind([2, TURN, 2, TURN], "flat", "do", "figures", "state"),
                         [[1], [0, 0, 1], [3, 0, 2, 0], [3, 2, 0]])
        self.assertEqual(behind([2], "flat", "do", "figures", "state"), [[1], [0, 0, 1], [0], [0, 0, 0]])

    def test_no_figures(self):
        self.assertEqual(ask("start", "figures", "state"), [[0], [0], [0, 0, 0]])

    def test_turns_alone(self):
        self.assertEqual(behind([TURN] * 3, "figures", "state"), [[3, 0, 0, 0], [3, 0, 0]])

    def test_ten_figures_at_both_ends(self):
        self.assertEqual(behind([6, -6] * 5, "figures", "state"), [[10] + [6, -6] * 5, [10, 60, 0]])

    def test_each_twist_is_a_figure_of_its_own(self):
        self.assertEqual(behind([1, 1, -1], "figures", "state"), [[3, 1, 1, -1], [3, 3, 0]])

    def test_what_is_refused_leaves_them(self):
        row = [3, TURN] * 5
        for text in ("twist 1", "twist 7", "turn", "change 10 0", "change 1 1", "change 0 4", "to 2 2", "to 10000 1",
                     "closes 3 0", "closes 401 1", "ways 5", "results 5", "rings 5", "way", "do"):
            with self.subTest(text=text):
                told = behind(row, text, "figures", "state")
                self.assertLess(told[0][0], 0)
                self.assertEqual(told[0][1:], [])
                self.assertEqual(told[1:], [[10] + [3, 0] * 5, [10, 15, 0]])

    def test_they_change_nothing(self):
        self.assertEqual(behind([3], "undone", "figures", "state", "figures", "state", "way"),
                         [[1], [1, 3], [1, 3, 1], [1, 3], [1, 3, 1], [1, 1]])


if __name__ == "__main__":
    unittest.main()

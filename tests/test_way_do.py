"""way and do, behind each search and where no way is kept."""

import unittest

from tests.helper import TURN, ask, behind

# A row, a search on it, how few changes it answers, the way, what it comes to once it is done, the figures then.
SEARCHES = (
    ([3, TURN, 2], "undone", 1, [1, 0, 0], [1, 1], [1, 0, 2]),
    ([2, -1, 3, TURN, TURN], "split", 2, [2, 0, 0, 0, 0], [0, 1], [-2, -1, 3, 0, 0]),
    ([-6, 2], "flat", 2, [2, 0], [0, 1], [-2, 2]),
    ([4, TURN, 3, TURN], "to -1 3", -33, None, None, None),
    ([4, TURN, 3, TURN], "to 0 1", 2, [2, 0, 0, 0], [0, 1], [0, 3, 0]),
    ([-5, TURN, 2], "closes 7 5", 1, [1, 0, 0], [7, 3], [-3, 0, 2]),
    ([6, 3], "undone", 4, [4, 0], [1, 1], [-2, 3]),
)
ONE_WAY_KEPT = ([3, TURN, 2], "undone", [3, 1, 0, 0])


class WayTest(unittest.TestCase):
    def test_behind_each_search(self):
        for row, search, fewest, way, fraction, figures in SEARCHES:
            with self.subTest(row=row, search=search):
                told = [-6] if way is None else [len(way)] + way
                self.assertEqual(behind(row, search, "way", "way"), [[fewest], told, told])

    def test_of_no_figures(self):
        self.assertEqual(ask("start", "flat", "way", "state"), [[0], [0], [0], [0, 0, 1]])

    def test_of_turns_alone_and_of_nothing_to_change(self):
        self.assertEqual(behind([TURN, TURN, TURN], "undone", "way"), [[0], [3, 0, 0, 0]])
        self.assertEqual(behind([2, TURN, -1], "split", "way"), [[-33], [-6]])
        self.assertEqual(behind([1, -1], "split", "way"), [[0], [2, 0, 0]])

    def test_a_figure_changed_wholly(self):
        self.assertEqual(behind([3], "to -3 1", "way", "do", "figures"), [[3], [1, 3], [0, -3, 1], [1, -3]])

    def test_one_of_which_half_is_changed(self):
        self.assertEqual(behind([4, TURN, 2], "to 1 0", "way", "to -1 4", "way", "do", "figures", "state"),
                         [[2], [3, 2, 0, 0], [1], [3, 0, 0, 1], [0, -1, 4], [2, 4, 0], [2, 4, 0]])

    def test_the_last_search_counts(self):
        self.assertEqual(behind([3], "undone", "to -1 1", "way", "closes 3 2", "way", "to 3 1", "way"),
                         [[1], [2], [1, 2], [3], [1, 3], [0], [1, 0]])

    def test_it_changes_nothing(self):
        row, search, told = ONE_WAY_KEPT
        self.assertEqual(behind(row, search, "way", "figures", "state", "comes"),
                         [[1], told, [3, 3, 0, 2], [3, 5, 1], [0, 5, 3]])

    def test_it_is_kept_behind_calls_that_only_tell(self):
        row, search, told = ONE_WAY_KEPT
        for text in ("comes", "ring", "crossings", "ways 2", "results 4", "rings 3", "way", "bound", "figures",
                     "state"):
            with self.subTest(text=text):
                self.assertEqual(behind(row, search, text, "way")[-1], told)

    def test_it_is_kept_behind_what_is_refused(self):
        row, search, told = ONE_WAY_KEPT
        for text in ("twist 0", "twist 7", "change 3 0", "change 0 4", "change 1 1", "to 2 2", "to 10000 1",
                     "closes 401 1", "closes 3 3", "ways 5", "results 5", "rings 5"):
            with self.subTest(text=text):
                told_behind = behind(row, search, text, "way", "state", "figures")
                self.assertIn(told_behind[1], [[-2], [-22]])
                self.assertEqual(told_behind[2:], [told, [3, 5, 1], [3, 3, 0, 2]])

    def test_it_is_kept_behind_one_figure_too_many_and_an_off_of_none(self):
        for text in ("twist 1", "turn"):
            with self.subTest(text=text):
                self.assertEqual(behind([3] + [TURN] * 9, "to 1 1", text, "way", "state"),
                                 [[2], [-28], [10, 2] + [0] * 9, [10, 3, 1]])
                self.assertEqual(behind([3] + [TURN] * 9, "to 1 0", text, "way", "state"),
                                 [[-33], [-28], [-6], [10, 3, 0]])
                self.assertEqual(behind([3] + [TURN] * 8 + [2], "to 1 1", text, "way", "state"),
                                 [[2], [-28], [10, 2] + [0] * 9, [10, 5, 1]])
        self.assertEqual(ask("start", "split", "off", "way"), [[0], [0], [-6], [0]])


class DoTest(unittest.TestCase):
    def test_behind_each_search(self):
        for row, search, fewest, way, fraction, figures in SEARCHES:
            with self.subTest(row=row, search=search):
                if way is None:
                    self.assertEqual(behind(row, search, "do", "figures")[1:], [[-6], [4, 4, 0, 3, 0]])
                else:
                    self.assertEqual(behind(row, search, "do", "comes", "figures")[1:],
                                     [[0] + fraction, [0] + fraction, [len(figures)] + figures])

    def test_behind_a_way_that_was_told(self):
        self.assertEqual(behind([5], "undone", "way", "do", "undone", "way"), [[2], [1, 2], [0, 1, 1], [0], [1, 0]])

    def test_of_nothing_to_change(self):
        self.assertEqual(behind([1, TURN], "undone", "do", "figures", "state"), [[0], [0, -1, 1], [2, 1, 0], [2, 1, 0]])
        self.assertEqual(ask("start", "flat", "do", "figures", "do"), [[0], [0], [0, 0, 1], [0], [-6]])

    def test_figures_left_without_half_twists_are_left_out(self):
        self.assertEqual(behind([-2, TURN, 4, TURN], "to 0 1", "do", "figures"), [[1], [0, 0, 1], [3, 0, 4, 0]])
        self.assertEqual(behind([2, -2, 1], "to 1 1", "do", "figures"), [[0], [0, 1, 1], [3, 2, -2, 1]])
        self.assertEqual(behind([6, -2, 1], "to -1 1", "do", "figures"), [[3], [0, -1, 1], [2, -2, 1]])
        self.assertEqual(behind([2, TURN, -2, TURN, 3], "to 1 1", "way", "do", "figures", "crossings"),
                         [[2], [5, 1, 0, 0, 0, 1], [0, 1, 1], [4, 0, -2, 0, 1], [3]])

    def test_what_is_left_out_makes_room(self):
        self.assertEqual(behind([2] + [-1, 1] * 4 + [1], "twist 1", "to 1 1", "do", "state", "twist 1", "twist 1"),
                         [[-28], [1], [0, 1, 1], [9, 9, 0], [0, 2, 1], [-28]])


class NoneKeptTest(unittest.TestCase):
    def test_ahead_of_any_search(self):
        self.assertEqual(ask("start", "way", "do", "figures"), [[0], [-6], [-6], [0]])
        self.assertEqual(behind([3, TURN, 2], "way", "do", "figures", "comes"), [[-6], [-6], [3, 3, 0, 2], [0, 5, 3]])

    def test_behind_a_search_by_which_none_is_found(self):
        for search in ("split", "flat", "to 2 1", "closes 4 1"):
            with self.subTest(search=search):
                self.assertEqual(behind([3], "undone", search, "way", "do", "state", "figures"),
                                 [[1], [-33], [-6], [-6], [1, 3, 0], [1, 3]])
        self.assertEqual(behind([2], "split", "undone", "way", "do", "state"), [[1], [-33], [-6], [-6], [1, 2, 0]])

    def test_behind_each_call_that_draws(self):
        for text in ("start", "twist 1", "twist -6", "turn", "off", "change 0 1", "change 0 0", "change 1 0", "do"):
            with self.subTest(text=text):
                told = behind([3, TURN], "to -1 1", text, "way", "do", "state")
                self.assertEqual((told[0], told[2], told[3], told[4][2]), ([1], [-6], [-6], 0))
                self.assertGreaterEqual(told[1][0], 0)

    def test_a_search_behind_them_keeps_one_again(self):
        self.assertEqual(behind([3], "undone", "twist 2", "way", "undone", "way", "off", "way", "undone", "way"),
                         [[1], [0, 5, 1], [-6], [2], [2, 2, 0], [1], [-6], [1], [1, 1]])


if __name__ == "__main__":
    unittest.main()

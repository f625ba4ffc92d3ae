"""start, twist, turn, off, comes, crossings and change."""

import unittest

from tests.helper import TURN, ask, behind

TEN = [2, TURN, -1, 3, TURN, 6, TURN, TURN, -6, 1]


class StartTest(unittest.TestCase):
    def test_there_are_no_figures(self):
        self.assertEqual(ask("start", "comes", "crossings", "off"), [[0], [0, 0, 1], [0], [-6]])

    def test_another_start_takes_all_figures_away(self):
        self.assertEqual(behind([3, TURN], "start", "comes", "crossings", "off"), [[0], [0, 0, 1], [0], [-6]])


class TwistAndTurnTest(unittest.TestCase):
    def test_half_twists_of_either_sign_with_turns_between(self):
        self.assertEqual(
            ask("start", "twist 3", "turn", "twist 2", "turn", "twist -4", "turn", "twist -1"),
            [[0], [0, 3, 1], [0, -1, 3], [0, 5, 3], [0, -3, 5], [0, -23, 5], [0, 5, 23], [0, -18, 23]])

    def test_a_turn_of_a_fraction_below_0_has_its_lower_number_above_0(self):
        self.assertEqual(ask("start", "twist -2", "turn", "turn"), [[0], [0, -2, 1], [0, 1, 2], [0, -2, 1]])

    def test_turns_alone(self):
        self.assertEqual(ask("start", "turn", "turn", "turn"), [[0], [0, 1, 0], [0, 0, 1], [0, 1, 0]])

    def test_the_endless_fraction_stays_by_half_twists(self):
        self.assertEqual(ask("start", "turn", "twist 6", "twist -5", "turn"),
                         [[0], [0, 1, 0], [0, 1, 0], [0, 1, 0], [0, 0, 1]])

    def test_half_twists_that_end_in_0_turn_to_the_endless_one(self):
        self.assertEqual(behind([4, -4], "turn"), [[0, 1, 0]])

    def test_twists_at_both_ends_of_what_a_figure_may_be(self):
        self.assertEqual(ask("start", "twist 6", "twist -6", "twist -6", "twist 1", "twist -1"),
                         [[0], [0, 6, 1], [0, 0, 1], [0, -6, 1], [0, -5, 1], [0, -6, 1]])

    def test_a_twist_that_is_not_as_told(self):
        for n in (0, 7, -7, 2147483647, -2147483648):
            with self.subTest(n=n):
                self.assertEqual(behind([3], f"twist {n}", "comes", "crossings", "off"),
                                 [[-22], [0, 3, 1], [3], [0]])

    def test_the_tenth_figure_and_one_more(self):
        tenth = ask(*["start"] + ["twist 1"] * 12 + ["turn", "comes", "off", "turn", "turn", "off", "twist 2"])
        self.assertEqual(tenth[10:], [[0, 10, 1], [-28], [-28], [-28], [0, 10, 1],
                                      [9], [0, -1, 9], [-28], [9], [0, 11, 1]])

    def test_turns_count_as_figures_too(self):
        told = ask(*["start"] + ["turn"] * 11 + ["twist 1", "off"])
        self.assertEqual(told[10:], [[0, 0, 1], [-28], [-28], [9]])

    def test_a_twist_not_as_told_is_refused_ahead_of_ten_figures(self):
        self.assertEqual(behind(TEN, "twist 0", "twist 7", "twist -7", "twist 6"), [[-22], [-22], [-22], [-28]])


class OffTest(unittest.TestCase):
    def test_the_last_one_is_gone(self):
        self.assertEqual(behind([3, TURN, -2], "off", "comes", "off", "comes", "off", "comes", "off", "comes"),
                         [[2], [0, -1, 3], [1], [0, 3, 1], [0], [0, 0, 1], [-6], [0, 0, 1]])

    def test_of_ten(self):
        self.assertEqual(behind(TEN, "off"), [[9]])


class CrossingsTest(unittest.TestCase):
    def test_half_twists_of_either_sign_count_and_turns_do_not(self):
        self.assertEqual(behind(TEN, "crossings"), [[19]])
        self.assertEqual(behind([TURN, TURN], "crossings"), [[0]])
        self.assertEqual(behind([6] * 10, "crossings"), [[60]])
        self.assertEqual(behind([-6] * 10, "crossings", "comes"), [[60], [0, -60, 1]])


class ChangeTest(unittest.TestCase):
    def test_half_twists_above_0(self):
        self.assertEqual(behind([5, TURN, 2], "change 0 1", "change 0 2", "crossings"),
                         [[0, 5, 3], [0, 3, 1], [3]])

    def test_half_twists_below_0(self):
        self.assertEqual(behind([2, TURN, -5], "change 2 2", "comes", "crossings"), [[0, -3, 2], [0, -3, 2], [3]])

    def test_a_figure_changed_wholly(self):
        self.assertEqual(behind([3, TURN, 2], "change 0 3", "change 0 3", "change 2 2"),
                         [[0, 7, 3], [0, 5, 3], [0, -7, 3]])

    def test_none_of_a_figure_changed(self):
        self.assertEqual(behind([3, TURN, 2], "change 0 0", "change 2 0", "crossings"), [[0, 5, 3], [0, 5, 3], [5]])

    def test_one_of_which_half_is_left_out(self):
        self.assertEqual(behind([2, TURN, 3], "change 0 1", "crossings", "change 1 3", "change 2 0", "off", "off"),
                         [[0, 1, 0], [3], [0, 1, 0], [-2], [1], [0]])
        self.assertEqual(behind([3, TURN, -4, TURN], "change 2 2", "off", "off", "off", "off"),
                         [[0, 3, 1], [2], [1], [0], [-6]])

    def test_all_left_out(self):
        self.assertEqual(behind([-6], "change 0 3", "crossings", "off"), [[0, 0, 1], [0], [-6]])

    def test_one_left_out_makes_room(self):
        row = [1] * 4 + [2] + [1] * 5
        self.assertEqual(behind(row, "twist 1", "change 4 1", "twist 1", "twist 1"),
                         [[-28], [0, 9, 1], [0, 10, 1], [-28]])

    def test_none_of_a_turn_leaves_it_there(self):
        self.assertEqual(behind([3, TURN], "change 1 0", "off", "comes"), [[0, -1, 3], [1], [0, 3, 1]])

    def test_no_such_figure(self):
        self.assertEqual(behind([], "change 0 0", "change 4294967295 4294967295"), [[-2], [-2]])
        self.assertEqual(behind([3, TURN], "change 2 0", "change 4294967295 0", "comes", "crossings"),
                         [[-2], [-2], [0, -1, 3], [3]])

    def test_it_has_fewer_half_twists(self):
        self.assertEqual(
            behind([3, TURN, -2], "change 0 4", "change 1 1", "change 2 3", "change 2 4294967295", "comes", "off"),
            [[-22], [-22], [-22], [-22], [0, -7, 3], [2]])

    def test_no_such_figure_is_refused_first(self):
        self.assertEqual(behind([3], "change 1 4"), [[-2]])


if __name__ == "__main__":
    unittest.main()

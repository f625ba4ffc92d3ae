"""undone, split and flat, and the way that they keep."""

import unittest
from itertools import product

from fewchanges.ways import ways_with_fractions
from tests.helper import TURN, ask, behind, slowly, way_behind


class FewestTest(unittest.TestCase):
    def test_no_figures(self):
        self.assertEqual(behind([], "undone", "split", "flat"), [[-33], [0], [0]])

    def test_turns_alone(self):
        self.assertEqual(behind([TURN], "undone", "split", "flat"), [[0], [-33], [-33]])
        self.assertEqual(behind([TURN, TURN], "undone", "split", "flat"), [[-33], [0], [0]])

    def test_nothing_to_change(self):
        self.assertEqual(behind([1], "undone"), [[0]])
        self.assertEqual(behind([3, TURN, -2, TURN, -1, 1, TURN, 2, TURN, -3], "split", "flat"), [[0], [0]])
        self.assertEqual(behind([TURN, 6], "undone"), [[0]])

    def test_one_change(self):
        self.assertEqual(behind([3], "undone"), [[1]])
        self.assertEqual(behind([-3], "undone"), [[1]])
        self.assertEqual(behind([3, TURN, 2], "undone"), [[1]])
        self.assertEqual(behind([2], "split", "flat"), [[1], [1]])

    def test_undone_by_two_and_not_by_one(self):
        self.assertEqual(behind([5], "undone"), [[2]])

    def test_three_changes(self):
        self.assertEqual(behind([-6], "split", "flat"), [[3], [3]])

    def test_a_way_of_four(self):
        self.assertEqual(behind([6, 3], "undone"), [[4]])
        self.assertEqual(way_behind([6, 3], "undone"), [4, 0])
        self.assertEqual(behind([-2, -6], "split", "flat"), [[4], [4]])
        self.assertEqual(way_behind([-2, -6], "flat"), [2, 2])

    def test_four_are_too_few(self):
        self.assertEqual(behind([6, 5], "undone"), [[-33]])
        self.assertEqual(behind([6, 4], "split", "flat"), [[-33], [-33]])
        self.assertEqual(behind([6] * 10, "undone", "split", "flat"), [[-33], [-33], [-33]])

    def test_split_and_flat_ask_for_the_upper_number_0_alone(self):
        self.assertEqual(behind([2, TURN, 2], "comes", "split", "flat", "undone"), [[0, 3, 2], [-33], [-33], [1]])

    def test_they_change_no_figure(self):
        self.assertEqual(behind([3, TURN, 2], "undone", "comes", "crossings", "split", "comes", "off"),
                         [[1], [0, 5, 3], [5], [-33], [0, 5, 3], [2]])


class WayTest(unittest.TestCase):
    def test_the_first_way_changes_more_at_the_first_figure(self):
        self.assertEqual(way_behind([3, -2, 4], "undone"), [2, 0, 0])
        self.assertEqual(way_behind([1, -2, 4], "undone"), [1, 0, 0])
        self.assertEqual(way_behind([-1, 4], "undone"), [0, 1])
        self.assertEqual(way_behind([3, TURN, 2], "undone"), [1, 0, 0])

    def test_nothing_to_change_is_a_way_too(self):
        self.assertEqual(way_behind([], "flat"), [])
        self.assertEqual(way_behind([TURN, 6], "undone"), [0, 0])

    def test_none_is_kept_from_a_start_on(self):
        self.assertIsNone(way_behind([3]))
        for text in ("start", "twist 1", "turn", "off", "change 0 1", "change 0 0"):
            with self.subTest(text=text):
                self.assertIsNone(way_behind([3], "undone", text))

    def test_it_is_kept_behind_calls_that_draw_nothing(self):
        for text in ("comes", "ring", "crossings", "twist 0", "twist 7", "change 1 0", "change 0 4"):
            with self.subTest(text=text):
                self.assertEqual(way_behind([3], "undone", text), [1])

    def test_it_is_kept_behind_a_figure_too_many(self):
        row = [3] + [TURN] * 8 + [2]
        for text in ("twist 1", "turn"):
            with self.subTest(text=text):
                self.assertEqual(way_behind(row, "undone", text), [2] + [0] * 9)

    def test_it_is_kept_behind_an_off_of_nothing(self):
        self.assertEqual(way_behind([], "flat", "off"), [])

    def test_a_search_without_an_end_takes_the_kept_one_away(self):
        self.assertEqual(way_behind([3], "split", "undone"), [1])
        self.assertIsNone(way_behind([3], "undone", "split"))
        self.assertIsNone(way_behind([3], "undone", "flat"))
        self.assertIsNone(way_behind([2], "flat", "undone"))

    def test_another_search_keeps_another_way(self):
        self.assertEqual(way_behind([2, -1, 1], "split"), [1, 0, 0])
        self.assertEqual(way_behind([2, TURN, 2], "split", "undone"), [1, 0, 0])

    def test_ways_in_order(self):
        ways = [way for way, fraction in ways_with_fractions([2, 0, -1, 3], 2)]
        self.assertEqual(ways, [(2, 0, 0, 0), (1, 0, 1, 0), (1, 0, 0, 1), (0, 0, 1, 1), (0, 0, 0, 2)])
        self.assertEqual(ways_with_fractions([2, 0], 3), [])
        self.assertEqual(ways_with_fractions([], 0), [((), (0, 1))])


class EveryChoiceTest(unittest.TestCase):
    """No fewer changes do it, whichever crossings are changed, and the way told does."""

    WISHES = (
        ("undone", lambda fraction: abs(fraction[0]) == 1),
        ("split", lambda fraction: fraction[0] == 0),
        ("flat", lambda fraction: fraction == (0, 1)),
    )

    def check(self, row):
        for name, is_wished in self.WISHES:
            fewest, way = slowly(row, is_wished)
            self.assertEqual((behind(row, name), way_behind(row, name)), ([[fewest]], way), (row, name))

    def test_rows_with_turns_between(self):
        for first, second, third in product((-4, -1, 2, 3), (-3, 2, 5), (-2, 1, 4)):
            self.check([first, TURN, second, TURN, third])

    def test_rows_with_no_turn_or_more_than_one(self):
        for row in ([5, -3], [-6, -4], [2, 2, TURN, 3], [TURN, 4], [-3, TURN, TURN, 5], [3, TURN, 1, -1, TURN, 6],
                    [1, TURN, -1, TURN, 1, TURN, 2, TURN, 3], [5, TURN, TURN, 5]):
            self.check(row)

    def test_the_way_done_figure_by_figure_does_it(self):
        rows = ([5, TURN, 4], [3, TURN, -3, TURN, 5], [-4, TURN, 5, TURN, 3], [6, 3])
        for row in rows:
            way = way_behind(row, "undone")
            changes = [f"change {i} {k}" for i, k in enumerate(way)]
            # From the last one back, so that none that is left out moves those which are still to come.
            self.assertEqual(behind(row, *changes[::-1], "ring")[-1], [0, 1, 0], row)


class NotFoundTest(unittest.TestCase):
    def test_refused_answers_are_their_number_alone(self):
        self.assertEqual(ask("start", "undone", "twist 1", "split"), [[0], [-33], [0, 1, 1], [-33]])


if __name__ == "__main__":
    unittest.main()

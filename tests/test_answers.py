"""How a list of calls is handed in and what is given back."""

import unittest

from fewchanges.strings import answers
from tests.helper import NUMBER_OF, ask

HANDED = {"twist": " 3", "change": " 0 0", "to": " 0 1", "closes": " 1 0", "ways": " 1", "results": " 1", "rings": " 1"}


class BeforeAStartTest(unittest.TestCase):
    def test_every_call_but_start(self):
        for name in NUMBER_OF:
            if name != "start":
                with self.subTest(name=name):
                    self.assertEqual(ask(name + HANDED.get(name, ""), "start", "comes"), [[-11], [0], [0, 0, 1]])

    def test_whatever_else_is_not_as_told(self):
        self.assertEqual(
            ask("twist 0", "twist -2147483648", "twist 2147483647", "change 4294967295 4294967295", "off",
                "to -2147483648 4294967295", "closes 4294967295 4294967295", "ways 4294967295", "start", "crossings"),
            [[-11]] * 8 + [[0], [0]])

    def test_nothing_of_it_is_kept(self):
        self.assertEqual(ask("twist 3", "turn", "start", "comes", "off"), [[-11], [-11], [0], [0, 0, 1], [-6]])


class AnswersTest(unittest.TestCase):
    def test_each_answer_stands_behind_its_count(self):
        self.assertEqual(answers([0, 1, 3, 2, 1, 2, 5, 8]),
                         [1, 0, 3, 0, 3, 1, 3, 0, -1, 3, 3, 0, 5, 3, 3, 0, 5, 2, 1, 1])
        self.assertEqual(answers([0]), [1, 0])
        self.assertEqual(answers([4, 0, 7, 0, 0, 6]), [1, -11, 1, 0, 1, -2, 1, 0])

    def test_numbers_that_are_handed_over_are_no_calls(self):
        self.assertEqual(answers([0, 1, 2, 7, 0, 0, 3, 3]), [1, 0, 3, 0, 2, 1, 3, 0, 2, 1, 1, 0, 1, -6])

    def test_just_whole_numbers_are_given_back(self):
        given = answers([0, 1, 3, 8, 9, 10, 2, 5, 4, 6, 3, 7, 0, 1])
        self.assertIs(type(given), list)
        self.assertEqual({type(number) for number in given}, {int})

    def test_200_calls(self):
        told = answers([0] + [1, -6] * 10 + [8] * 189)
        self.assertEqual(told[-189 * 2:], [1, -33] * 189)

    def test_the_list_stays_as_it_was(self):
        calls = [0, 1, 2, 2, 1, 3, 7, 0, 1, 5, 8, 9, 10, 3, 6, 4]
        before = list(calls)
        answers(calls)
        self.assertEqual(calls, before)

    def test_nothing_is_kept_from_one_time_to_the_next(self):
        calls = [0, 1, 3, 2, 1, 2, 8, 4]
        first = answers(calls)
        self.assertEqual(answers([4]), [1, -11])
        self.assertEqual(answers([8, 0, 6]), [1, -11, 1, 0, 1, 0])
        self.assertEqual(answers(calls), first)

    def test_what_is_given_back_is_a_new_list(self):
        first = answers([0, 4])
        first.append(7)
        self.assertEqual(answers([0, 4]), [1, 0, 3, 0, 0, 1])


if __name__ == "__main__":
    unittest.main()

"""How a list of calls is handed in and what is given back."""

import unittest

from fewchanges.strings import answers
from tests.helper import NUMBER_OF, ask, cut

HANDED = {"twist": " 3", "change": " 0 0", "to": " 0 1", "closes": " 1 0", "ways": " 1", "results": " 1", "rings": " 1"}

# All 21 calls, behind a start and with a way kept; and each that can be refused there, with its refusal.
EVERY_CALL = (
    [0, 1, 3, 2, 1, 2, 7, 0, 1, 4, 5, 6, 9, 10, 11, -1, 1, 12, 1, 0, 13, 2, 14, 2, 15, 2, 8, 16, 20, 18, 19, 17, 20, 3],
    [0, 3, 16, 17, 1, 0, 1, 7, 7, 1, 0, 7, 0, 1, 11, 2, 2, 12, 401, 1, 13, 5, 14, 5, 15, 5, 8, 9, 20, 18, 19],
)


class BeforeAStartTest(unittest.TestCase):
    def test_every_call_but_start(self):
        for name in NUMBER_OF:
            if name != "start":
                with self.subTest(name=name):
                    self.assertEqual(ask(name + HANDED.get(name, ""), "start", "comes"), [[-11], [0], [0, 0, 1]])

    def test_whatever_else_is_not_as_told(self):
        self.assertEqual(
            ask("twist 0", "twist -2147483648", "twist 2147483647", "change 4294967295 4294967295", "off",
                "to -2147483648 4294967295", "to 2147483647 0", "closes 4294967295 4294967295", "closes 0 1",
                "ways 4294967295", "results 4294967295", "rings 4294967295", "way", "do", "start", "crossings"),
            [[-11]] * 14 + [[0], [0]])

    def test_nothing_of_it_is_kept(self):
        self.assertEqual(ask("undone", "flat", "to 0 1", "closes 0 0", "start", "way", "state"),
                         [[-11], [-11], [-11], [-11], [0], [-6], [0, 0, 0]])
        self.assertEqual(ask("twist 3", "turn", "start", "comes", "off"), [[-11], [-11], [0], [0, 0, 1], [-6]])


class AnswersTest(unittest.TestCase):
    def test_each_answer_stands_behind_its_count(self):
        self.assertEqual(answers([0, 1, 3, 2, 1, 2, 5, 8]),
                         [1, 0, 3, 0, 3, 1, 3, 0, -1, 3, 3, 0, 5, 3, 3, 0, 5, 2, 1, 1])
        self.assertEqual(answers([0]), [1, 0])
        self.assertEqual(answers([4, 0, 7, 0, 0, 6]), [1, -11, 1, 0, 1, -2, 1, 0])

    def test_numbers_that_are_handed_over_are_no_calls(self):
        self.assertEqual(answers([0, 1, 2, 7, 0, 0, 3, 3]), [1, 0, 3, 0, 2, 1, 3, 0, 2, 1, 1, 0, 1, -6])

    def test_each_call_has_just_the_counts_that_the_words_tell(self):
        self.assertEqual(answers([0, 1, 3, 2, 1, 2, 11, 1, 1, 16, 12, 3, 1, 13, 2, 14, 2, 15, 2, 18, 19, 20, 17]),
                         [1, 0, 3, 0, 3, 1, 3, 0, -1, 3, 3, 0, 5, 3, 1, 1, 4, 3, 1, 0, 0, 1, 2, 1, 3, 1, 3,
                          7, 3, 3, 1, 1, 0, 7, 2, 1, 1, 4, 3, 3, 0, 2, 3, 3, 5, 1, 3, 0, 3, 1])
        self.assertEqual(answers([0, 11, 2, 2, 12, 3, 3, 13, 5, 14, 5, 15, 5, 16, 17, 15, 1, 19, 20]),
                         [1, 0, 1, -22, 1, -22, 1, -22, 1, -22, 1, -22, 1, -6, 1, -6, 1, 0, 1, 0, 3, 0, 0, 0])

    def test_just_whole_numbers_are_given_back(self):
        for calls in EVERY_CALL:
            given = answers(calls)
            self.assertIs(type(given), list)
            self.assertEqual({type(number) for number in given}, {int})

    def test_200_calls(self):
        told = answers([0] + [1, -6] * 10 + [8] * 189)
        self.assertEqual(told[-189 * 2:], [1, -33] * 189)
        told = cut(answers([0] + [1, 6, 2, 1, -6, 2] * 2 + [1, 6, 2] + [15, 4] * 189))
        self.assertEqual(len(told), 200)
        self.assertEqual(told[11:], [told[11]] * 189)

    def test_the_list_stays_as_it_was(self):
        for calls in EVERY_CALL:
            before = list(calls)
            answers(calls)
            self.assertEqual(calls, before)

    def test_nothing_is_kept_from_one_time_to_the_next(self):
        for calls in EVERY_CALL:
            first = answers(calls)
            self.assertEqual(answers([4, 16, 17, 19, 20]), [1, -11] * 5)
            self.assertEqual(answers([8, 0, 6, 16, 20]), [1, -11, 1, 0, 1, 0, 1, -6, 3, 0, 0, 0])
            self.assertEqual(answers(calls), first)

    def test_what_is_handed_in_or_given_back_may_be_changed_later(self):
        calls = list(EVERY_CALL[0])
        first = answers(calls)
        kept = list(first)
        calls.clear()
        self.assertEqual(first, kept)
        first.clear()
        self.assertEqual(answers(EVERY_CALL[0]), kept)

    def test_what_is_given_back_is_a_new_list(self):
        first = answers([0, 4])
        first.append(7)
        self.assertEqual(answers([0, 4]), [1, 0, 3, 0, 0, 1])


if __name__ == "__main__":
    unittest.main()

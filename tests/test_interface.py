"""The interface: how the calls stand in the list handed in, and the answers in the one given back."""

import unittest

from exacttimes.piece import answers
from line import FULL_OF_NOTES, begins, joined, mark, note, pedal, swing

LINE = [
    4, 0, 60, 0, 480, 64, 50, 1,
    1, 960, 400000, 1,
    2, 0, 960, 480, 2, 1,
    2, 480, 961, 480, 2, 1,
    3, 0, 480,
    3, 479, 960,
    4, 0, 60, 480, 480, 64, 100, 0,
    1, 960, 0, 0,
    0, 961,
    3, 480, 960,
    0, 96,
    1, 960, 300000, 0,
    4, 16, 60, 0, 480, 64, 100, 0,
    4, 15, 60, 0, 480, 64, 100, 0,
]
ANSWERS = [
    1, 0, 1, 2, 1, 1, 1, -1, 1, 1, 1, -3, 1, 1, 1, -1, 1, -1, 1, 2, 1, 0, 1, 2, 1, -1, 1, 0,
]


class InterfaceTest(unittest.TestCase):
    def test_a_line_of_all_these_calls(self):
        self.assertEqual(answers(list(LINE)), ANSWERS)

    def test_any_call_may_be_first(self):
        for call, answer in ((begins(1), 0), (mark(5), 2), (swing(0, 2), 1), (pedal(0, 1), 1), (note(), 0)):
            with self.subTest(call=call):
                self.assertEqual(answers(call), [1, answer])

    def test_a_refusal_is_its_number_alone(self):
        for call in (begins(0), mark(5, 0), swing(0, 0), pedal(0, 0), note(length=0)):
            with self.subTest(call=call):
                self.assertEqual(answers(call), [1, -1])

    def test_numbers_that_look_like_calls_are_not_taken_for_them(self):
        line = [1, 4, 3, 1, 3, 0, 4, 4, 4, 4, 4, 4, 4, 4, 1, 2, 2, 4, 2, 1, 1]
        self.assertEqual(answers(line), [1, 2, 1, 1, 1, 0, 1, 1])

    def test_a_line_of_250_calls(self):
        line = FULL_OF_NOTES + [mark(k) for k in range(1, 51)]
        expected = [[1, k] for k in range(200)] + [[1, k] for k in range(2, 51)] + [[1, -5]]
        self.assertEqual(answers(joined(line)), joined(expected))

    def test_whole_numbers_in_a_list_are_given_back(self):
        given = answers(list(LINE))
        self.assertIs(type(given), list)
        self.assertEqual({type(number) for number in given}, {int})

    def test_the_list_handed_in_is_as_it_was(self):
        line = list(LINE)
        answers(line)
        self.assertEqual(line, LINE)

    def test_what_is_given_back_is_a_list_of_its_own(self):
        line = list(LINE)
        given = answers(line)
        given.clear()
        self.assertEqual(line, LINE)
        self.assertEqual(answers(line), ANSWERS)

    def test_nothing_is_kept_from_one_time_to_the_next(self):
        line = list(LINE)
        self.assertEqual(answers(line), ANSWERS)
        self.assertEqual(answers(line), ANSWERS)
        answers(joined([begins(960), mark(7), swing(0, 2), pedal(0, 1), note()]))
        self.assertEqual(answers(line), ANSWERS)

"""The interface: how the calls stand in the list handed in, and the answers in the one given back."""

import unittest

from exacttimes.piece import answers
from line import (
    FULL_OF_NOTES, asked, at, begins, events, joined, mark, moved, note, pedal, sounds, swing, time,
)

LINE = [
    4, 0, 60, 0, 480, 64, 50, 1,
    1, 960, 400000, 1,
    2, 0, 960, 480, 2, 1,
    2, 480, 961, 480, 2, 1,
    3, 0, 480,
    3, 479, 960,
    4, 0, 60, 480, 480, 64, 100, 0,
    1, 960, 0, 0,
    0, 961,
    3, 480, 960,
    0, 96,
    1, 960, 300000, 0,
    4, 16, 60, 0, 480, 64, 100, 0,
    4, 15, 60, 0, 480, 64, 100, 0,
]
ANSWERS = [
    1, 0, 1, 2, 1, 1, 1, -1, 1, 1, 1, -3, 1, 1, 1, -1, 1, -1, 1, 2, 1, 0, 1, 2, 1, -1, 1, 0,
]


PLAYED_LINE = [
    7,
    8,
    0, 1,
    1, 0, 100, 0,
    1, 6, 50, 0,
    2, 0, 4, 4, 3, 1,
    3, 5, 7,
    4, 2, 60, 0, 2, 64, 100, 1,
    4, 2, 60, 2, 1, 65, 100, 0,
    4, 1, 61, 3, 4, 9, 50, 0,
    5, 1,
    5, 1000001,
    6, 640,
    7,
    8,
    9, 1000000,
    9, 3,
    5, 1,
    6, 640,
    7,
    8,
]
PLAYED_ANSWERS = [
    1, 0,
    1, 0,
    1, 0,
    1, 1,
    1, 2,
    1, 1,
    1, 1,
    1, 0,
    1, 1,
    1, 2,
    5, 0, 3, 150, 0, 1,
    1, -1,
    1, 6,
    17, 2, 7, 0, 0, 0, 1, 350, 0, 1, 7, 2, 350, 0, 1, 650, 0, 1,
    29, 4, 6, 0, 1, 2, 60, 64, 0, 6, 350, 0, 2, 60, 0, 0, 6, 350, 1, 1, 61, 9, 2, 6, 650, 0, 1, 61, 0, 2,
    1, -1,
    1, 0,
    5, 0, 3, 100, 0, 1,
    1, 5,
    17, 2, 7, 0, 300, 0, 1, 650, 0, 1, 7, 2, 650, 0, 1, 950, 0, 1,
    29, 4, 6, 300, 1, 2, 60, 64, 0, 6, 650, 0, 2, 60, 0, 0, 6, 650, 1, 1, 61, 9, 2, 6, 950, 0, 1, 61, 0, 2,
]


def refuse_change(*given, **named):
    raise AssertionError("what is handed in is changed")


class Unchanging(list):
    """A list that tells at once when it is changed."""

    append = extend = insert = pop = remove = clear = sort = reverse = refuse_change
    __setitem__ = __delitem__ = __iadd__ = __imul__ = refuse_change


class InterfaceTest(unittest.TestCase):
    def test_a_line_of_what_is_written(self):
        self.assertEqual(answers(list(LINE)), ANSWERS)

    def test_a_line_of_all_calls(self):
        self.assertEqual(answers(list(PLAYED_LINE)), PLAYED_ANSWERS)

    def test_any_call_may_be_first(self):
        for call, answer in (
            (begins(1), [0]), (mark(5), [2]), (swing(0, 2), [1]), (pedal(0, 1), [1]), (note(), [0]),
            (time(480), [0, 3, 500000, 0, 1]), (at(500000), [480]), (sounds(), [0]), (events(), [0]), (moved(5), [0]),
        ):
            with self.subTest(call=call):
                self.assertEqual(answers(call), [len(answer), *answer])

    def test_a_refusal_is_its_number_alone(self):
        for call in (
            begins(0), mark(5, 0), swing(0, 0), pedal(0, 0), note(length=0), time(1000001), moved(1000001),
        ):
            with self.subTest(call=call):
                self.assertEqual(answers(call), [1, -1])

    def test_lists_have_how_many_numbers_they_have_ahead_of_them(self):
        line = [note(first=0, length=480), note(pitch=61, first=480, length=480)]
        self.assertEqual(asked(*line, sounds())[-1], [
            2, 7, 0, 0, 0, 1, 500000, 0, 1, 7, 1, 500000, 0, 1, 1000000, 0, 1,
        ])
        self.assertEqual(asked(*line, events())[-1], [
            4, 6, 0, 1, 0, 60, 64, 0, 6, 500000, 0, 0, 60, 0, 0, 6, 500000, 1, 0, 61, 64, 1, 6, 1000000, 0, 0, 61, 0, 1,
        ])

    def test_numbers_that_look_like_calls_are_not_taken_for_them(self):
        line = [1, 4, 3, 1, 3, 0, 4, 4, 4, 4, 4, 4, 4, 4, 1, 2, 2, 4, 2, 1, 1, 9, 9, 6, 6, 5, 5]
        self.assertEqual(answers(line), [1, 2, 1, 1, 1, 0, 1, 1, 1, 0, 1, 0, 5, 0, 3, 5208, 1, 3])

    def test_a_line_of_250_calls(self):
        line = FULL_OF_NOTES + [mark(k) for k in range(1, 51)]
        expected = [[1, k] for k in range(200)] + [[1, k] for k in range(2, 51)] + [[1, -5]]
        self.assertEqual(answers(joined(line)), joined(expected))

    def test_whole_numbers_in_a_list_are_given_back(self):
        for line in (LINE, PLAYED_LINE):
            given = answers(list(line))
            self.assertIs(type(given), list)
            self.assertEqual({type(number) for number in given}, {int})

    def test_the_list_handed_in_is_not_changed_for_a_while_either(self):
        for numbers in (LINE, PLAYED_LINE):
            line = Unchanging(numbers)
            answers(line)
            self.assertEqual(line, numbers)

    def test_the_list_handed_in_is_as_it_was(self):
        for numbers in (LINE, PLAYED_LINE):
            line = list(numbers)
            answers(line)
            self.assertEqual(line, numbers)

    def test_what_is_given_back_is_a_list_of_its_own(self):
        for numbers, expected in ((LINE, ANSWERS), (PLAYED_LINE, PLAYED_ANSWERS)):
            line = list(numbers)
            given = answers(line)
            given.clear()
            self.assertEqual(line, numbers)
            self.assertEqual(answers(line), expected)

    def test_nothing_is_kept_from_one_time_to_the_next(self):
        for numbers, expected in ((LINE, ANSWERS), (PLAYED_LINE, PLAYED_ANSWERS)):
            line = list(numbers)
            self.assertEqual(answers(line), expected)
            self.assertEqual(answers(line), expected)
            answers(joined([begins(960), mark(7), swing(0, 2), pedal(0, 1), note(), sounds(), moved(9), events()]))
            self.assertEqual(answers(line), expected)

"""Promise 1: begins."""

import unittest

from line import (
    AT_BEGINNING, FULL_OF_MARKS, FULL_OF_PEDALS, FULL_OF_SWINGS, GREATEST,
    asked, asked_last, at, begins, events, laid_open, mark, moved, note, pedal, sounds, swing, time,
)

SOME_OF_ALL = [
    begins(96), mark(0, 400000, 1), mark(960, 300000), swing(0, 960, 480), pedal(0, 480),
    note(), note(first=480, tied=1),
]


class BeginsTest(unittest.TestCase):
    def test_answers_0(self):
        self.assertEqual(asked(begins(480)), [[0]])

    def test_edges_of_the_ticks(self):
        for ticks, answer in ((0, -1), (1, 0), (2, 0), (959, 0), (960, 0), (961, -1), (GREATEST, -1)):
            with self.subTest(ticks=ticks):
                self.assertEqual(asked(begins(ticks)), [[answer]])

    def test_at_a_lines_beginning(self):
        self.assertEqual(laid_open(), AT_BEGINNING)

    def test_the_quarters_ticks_alone_are_other(self):
        for ticks in (1, 96, 480, 960):
            with self.subTest(ticks=ticks):
                self.assertEqual(laid_open(begins(ticks)), dict(AT_BEGINNING, ticks=ticks))
                self.assertEqual(laid_open(*SOME_OF_ALL, begins(ticks)), dict(AT_BEGINNING, ticks=ticks))

    def test_in_the_middle_of_a_line_the_counts_begin_anew(self):
        line = SOME_OF_ALL + [begins(96)]
        self.assertEqual(asked_last(*line, mark(0)), [1])
        self.assertEqual(asked_last(*line, mark(960)), [2])
        self.assertEqual(asked_last(*line, swing(0, 960, 480)), [1])
        self.assertEqual(asked_last(*line, pedal(0, 480)), [1])
        self.assertEqual(asked_last(*line, note()), [0])

    def test_what_was_full_is_empty(self):
        line = FULL_OF_MARKS + FULL_OF_SWINGS + FULL_OF_PEDALS + [begins(960)]
        self.assertEqual(asked_last(*line, mark(60)), [2])
        self.assertEqual(asked_last(*line, swing(0, 10)), [1])
        self.assertEqual(asked_last(*line, pedal(0, 10)), [1])

    def test_after_a_refusal_all_is_as_it_was(self):
        for ticks in (0, 961, GREATEST):
            with self.subTest(ticks=ticks):
                refused = SOME_OF_ALL + [begins(ticks)]
                self.assertEqual(laid_open(*refused), laid_open(*SOME_OF_ALL))
                self.assertEqual(asked_last(*refused, mark(0)), [2])
                self.assertEqual(asked_last(*refused, swing(0, 2)), [-3])
                self.assertEqual(asked_last(*refused, pedal(479, 481)), [-3])
                self.assertEqual(asked_last(*refused, note()), [2])

    def test_after_every_other_call(self):
        asking = [time(5), time(1000000), at(7777), at(GREATEST), sounds(), events()]
        line = [*SOME_OF_ALL, *asking, moved(7), *asking, moved(0), time(1000001), moved(1000001)]
        again = [mark(960, 300000), note(first=3), sounds(), events(), moved(2), *asking]
        for ticks in (1, 96, 480, 960):
            with self.subTest(ticks=ticks):
                self.assertEqual(laid_open(*line, begins(ticks)), dict(AT_BEGINNING, ticks=ticks))
                expected = asked(begins(ticks), *asking, *again)
                self.assertEqual(asked(*line, begins(ticks), *asking, *again)[-len(expected):], expected)

    def test_there_is_nothing_to_be_played_then(self):
        line = [*SOME_OF_ALL, moved(7), begins(480)]
        self.assertEqual(asked(*line, sounds(), events(), time(480), at(500000))[-4:], [
            [0], [0], [0, 3, 500000, 0, 1], [480],
        ])

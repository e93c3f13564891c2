"""Promise 2: mark."""

import unittest

from line import AT_BEGINNING, FULL_OF_MARKS, GREATEST, asked, asked_last, laid_open, mark


class MarkTest(unittest.TestCase):
    def test_answers_how_many_there_are(self):
        self.assertEqual(asked(mark(960), mark(480), mark(481)), [[2], [3], [4]])

    def test_at_a_tick_that_has_one(self):
        self.assertEqual(asked(mark(0), mark(480), mark(480, 1), mark(0, 1, 1)), [[1], [2], [2], [2]])

    def test_it_stands_there_as_it_is_told(self):
        kept = laid_open(mark(960, 300000, 1), mark(480, 7, 0))
        marks = [(0, 500000, 0), (480, 7, 0), (960, 300000, 1)]
        self.assertEqual(kept, dict(AT_BEGINNING, marks=marks))

    def test_it_stands_instead_of_one_at_the_same_tick(self):
        line = [mark(480, 300000, 1), mark(960, 200000), mark(480, 250000, 0), mark(0, 1, 1)]
        marks = [(0, 1, 1), (480, 250000, 0), (960, 200000, 0)]
        self.assertEqual(laid_open(*line)["marks"], marks)

    def test_edges_of_the_tick(self):
        for tick, answer in ((0, 1), (1, 2), (999999, 2), (1000000, 2), (1000001, -1), (GREATEST, -1)):
            with self.subTest(tick=tick):
                self.assertEqual(asked(mark(tick)), [[answer]])

    def test_edges_of_the_length(self):
        for length, answer in ((0, -1), (1, 2), (10000000, 2), (10000001, -1), (GREATEST, -1)):
            for even in (0, 1):
                with self.subTest(length=length, even=even):
                    self.assertEqual(asked(mark(480, length, even)), [[answer]])

    def test_a_wrong_one_where_one_stands_is_refused(self):
        self.assertEqual(asked(mark(0, 0), mark(0, 10000001)), [[-1], [-1]])

    def test_the_50th_and_the_51st(self):
        self.assertEqual(asked_last(*FULL_OF_MARKS), [50])
        self.assertEqual(asked_last(*FULL_OF_MARKS, mark(50)), [-5])

    def test_at_a_tick_that_has_one_when_there_are_50(self):
        line = FULL_OF_MARKS + [mark(20, 7, 1)]
        self.assertEqual(asked_last(*line), [50])
        self.assertIn((20, 7, 1), laid_open(*line)["marks"])

    def test_of_two_refusals_the_first(self):
        self.assertEqual(asked_last(*FULL_OF_MARKS, mark(1000001)), [-1])
        self.assertEqual(asked_last(*FULL_OF_MARKS, mark(50, 0)), [-1])

    def test_after_a_refusal_all_is_as_it_was(self):
        for refused in (mark(1000001), mark(480, 0), mark(480, 10000001), mark(0, 0)):
            with self.subTest(refused=refused):
                self.assertEqual(asked(mark(480), refused, mark(960)), [[2], [-1], [3]])
                self.assertEqual(laid_open(mark(480, 7, 1), refused), laid_open(mark(480, 7, 1)))

    def test_after_too_many_all_is_as_it_was(self):
        refused = FULL_OF_MARKS + [mark(50)]
        self.assertEqual(laid_open(*refused), laid_open(*FULL_OF_MARKS))
        self.assertEqual(asked(*refused, mark(50), mark(49))[-2:], [[-5], [50]])

"""Promise 5, at: the last tick, up to 1000000, whose time isn't after that."""

import unittest

from line import GREATEST, asked, asked_last, at, begins, mark, swing, ticks_after, time

TWELVES = [begins(1), mark(0, 12)]


class AtTest(unittest.TestCase):
    def test_answers_a_tick_alone(self):
        self.assertEqual(asked(at(0), at(500000)), [[0], [480]])

    def test_just_before_at_and_just_behind_a_ticks_time(self):
        self.assertEqual(ticks_after([], (499999, 500000, 500001)), [479, 480, 480])
        self.assertEqual(ticks_after(TWELVES, (0, 1, 11, 12, 13, 23, 24, 25)), [0, 0, 0, 1, 1, 1, 2, 2])

    def test_a_ticks_time_that_is_not_whole(self):
        # Tick 1 is at 1041 2/3, tick 2 at 2083 1/3.
        self.assertEqual(ticks_after([], (1041, 1042, 2083, 2084)), [0, 1, 1, 2])

    def test_time_0(self):
        for calls in ([], TWELVES, [begins(960), mark(0, 1)], [swing(0, 2)]):
            with self.subTest(calls=calls):
                self.assertEqual(ticks_after(calls, (0,)), [0])

    def test_a_piece_so_slow_that_tick_1_is_not_reached(self):
        slow = [begins(1), mark(0, 10000000)]
        self.assertEqual(ticks_after(slow, (9999999, 10000000, GREATEST)), [0, 1, 429])
        swung = slow + [swing(0, 1000000, 1000000, 20, 1)]
        self.assertEqual(ticks_after(swung, (10000000, 19047619, 19047620)), [0, 0, 1])

    def test_a_piece_so_fast_that_tick_1000000_is_passed(self):
        fast = [begins(960), mark(0, 1)]
        self.assertEqual(ticks_after(fast, (1, 1041, 1042, 1043, GREATEST)), [960, 999360, 1000000, 1000000, 1000000])

    def test_about_tick_1000000(self):
        times = (1041665624, 1041665625, 1041666666, 1041666667, GREATEST)
        self.assertEqual(ticks_after([], times), [999998, 999999, 999999, 1000000, 1000000])

    def test_the_greatest_time_before_tick_1000000(self):
        # A tick lasts 5000.
        self.assertEqual(ticks_after([mark(0, 2400000)], (GREATEST,)), [858993])

    def test_about_marks(self):
        calls = TWELVES + [mark(5, 3)]
        self.assertEqual(ticks_after(calls, (59, 60, 62, 63, 65, 66)), [4, 5, 5, 6, 6, 7])

    def test_between_even_marks(self):
        # The ticks are at 0, 12 1/2, 30, 52 1/2, 80, 110.
        calls = [begins(1), mark(0, 10, 1), mark(4, 30)]
        self.assertEqual(ticks_after(calls, (12, 13, 29, 30, 52, 53, 79, 80, 109, 110)), [0, 1, 1, 2, 2, 3, 3, 4, 4, 5])

    def test_within_a_swing(self):
        # The ticks are at 0, 16, 32, 40, 48, 64.
        calls = TWELVES + [swing(0, 8, 4, 2, 1)]
        times = (15, 16, 17, 31, 32, 39, 40, 41, 47, 48, 63, 64)
        self.assertEqual(ticks_after(calls, times), [0, 1, 1, 1, 2, 2, 3, 3, 3, 4, 4, 5])

    def test_it_goes_back_to_every_tick(self):
        line = [
            begins(3), mark(0, 7000, 1), mark(5, 900), mark(11, 400, 1), mark(30, 90000, 1), mark(31, 80),
            swing(0, 12, 6, 20, 1), swing(12, 20, 8, 1, 20), swing(24, 40, 2, 5, 3),
        ]
        for tick in (*range(1, 45), 999999, 1000000):
            with self.subTest(tick=tick):
                whole, upper, lower = asked_last(*line, time(tick))[2:]
                reached = whole if upper == 0 else whole + 1
                self.assertEqual(ticks_after(line, (reached - 1, reached, reached + 1)), [tick - 1, tick, tick])

    def test_at_changes_nothing(self):
        self.assertEqual(asked(*TWELVES, at(25), at(1), at(25), time(2))[2:], [[2], [0], [2], [0, 3, 24, 0, 1]])

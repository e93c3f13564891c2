"""Promise 5, time: what "Tempo" says of marks and of swings."""

import unittest

from line import GREATEST, asked, asked_last, begins, mark, swing, time, times_after

# With one tick to the quarter a tick lasts as long as the mark says.
TENS = [begins(1), mark(0, 10)]
TWELVES = [begins(1), mark(0, 12)]


class MarksTest(unittest.TestCase):
    def test_answers_0_and_a_list_of_three(self):
        found = asked(time(0), time(480), time(1))
        self.assertEqual(found, [[0, 3, 0, 0, 1], [0, 3, 500000, 0, 1], [0, 3, 1041, 2, 3]])

    def test_edges_of_the_tick(self):
        self.assertEqual(asked(time(1000000)), [[0, 3, 1041666666, 2, 3]])
        self.assertEqual(asked(time(999999)), [[0, 3, 1041665625, 0, 1]])
        for tick in (1000001, 1000480, GREATEST):
            with self.subTest(tick=tick):
                self.assertEqual(asked(time(tick)), [[-1]])

    def test_what_is_left_is_in_lowest_terms(self):
        calls = [begins(960), mark(0, 4)]
        self.assertEqual(times_after(calls, (1, 2, 80, 120)), [(0, 1, 240), (0, 1, 120), (0, 1, 3), (0, 1, 2)])
        self.assertEqual(times_after(calls, (239, 240, 241, 360)), [(0, 239, 240), 1, (1, 1, 240), (1, 1, 2)])

    def test_another_number_of_ticks_of_a_quarter(self):
        self.assertEqual(times_after([begins(96)], (1, 96, 192)), [(5208, 1, 3), 500000, 1000000])
        self.assertEqual(times_after([begins(960)], (1, 480, 960)), [(520, 5, 6), 250000, 500000])
        self.assertEqual(times_after([begins(7)], (1, 7)), [(71428, 4, 7), 500000])
        self.assertEqual(times_after([begins(1)], (1, 2)), [500000, 1000000])

    def test_shortest_and_longest(self):
        self.assertEqual(times_after([begins(960), mark(0, 1)], (1, 1000000)), [(0, 1, 960), (1041, 2, 3)])
        self.assertEqual(times_after([begins(1), mark(0, 10000000)], (1, 1000000)), [10000000, 10000000000000])

    def test_before_at_and_behind_a_mark(self):
        self.assertEqual(times_after(TENS + [mark(5, 3)], (0, 4, 5, 6, 7)), [0, 40, 50, 53, 56])

    def test_a_mark_at_0_instead_of_the_first(self):
        self.assertEqual(times_after([mark(0, 480)], (0, 1, 480)), [0, 1, 480])

    def test_a_mark_instead_of_one_at_the_same_tick(self):
        calls = TENS + [mark(5, 3, 1), mark(9, 30), mark(5, 4)]
        self.assertEqual(times_after(calls, (5, 6, 9, 10)), [50, 54, 66, 96])

    def test_marks_are_told_in_any_order(self):
        told = [mark(4, 30, 1), mark(8, 10), mark(12, 5)]
        ticks = (2, 4, 6, 8, 10, 12, 14)
        expected = times_after(TENS + told, ticks)
        self.assertEqual(expected, [20, 40, 90, 120, 140, 160, 170])
        self.assertEqual(times_after(TENS + told[::-1], ticks), expected)

    def test_an_even_mark_whose_length_rises(self):
        calls = [begins(1), mark(0, 10, 1), mark(4, 30)]
        self.assertEqual(times_after(calls, range(7)), [0, (12, 1, 2), 30, (52, 1, 2), 80, 110, 140])

    def test_an_even_mark_whose_length_falls(self):
        calls = [begins(1), mark(0, 30, 1), mark(4, 10)]
        self.assertEqual(times_after(calls, range(7)), [0, (27, 1, 2), 50, (67, 1, 2), 80, 90, 100])

    def test_a_mark_that_is_not_even_stays(self):
        self.assertEqual(times_after(TENS + [mark(4, 30)], range(7)), [0, 10, 20, 30, 40, 70, 100])
        self.assertEqual(times_after([begins(1), mark(0, 30), mark(4, 10)], range(7)), [0, 30, 60, 90, 120, 130, 140])

    def test_an_even_mark_to_one_of_the_same_length(self):
        calls = [begins(1), mark(0, 10, 1), mark(3, 10)]
        self.assertEqual(times_after(calls, range(6)), [0, 10, 20, 30, 40, 50])

    def test_an_even_mark_over_thirds(self):
        calls = [begins(1), mark(0, 10, 1), mark(3, 11)]
        self.assertEqual(times_after(calls, range(5)), [0, (10, 1, 6), (20, 2, 3), (31, 1, 2), (42, 1, 2)])

    def test_even_marks_one_behind_another(self):
        calls = [begins(1), mark(0, 10, 1), mark(4, 30, 1), mark(8, 10)]
        self.assertEqual(times_after(calls, (2, 4, 6, 8, 9)), [30, 80, 130, 160, 170])

    def test_even_marks_at_neighbouring_ticks(self):
        calls = [begins(1), mark(0, 10, 1), mark(1, 20, 1), mark(2, 40)]
        self.assertEqual(times_after(calls, range(4)), [0, 15, 45, 85])

    def test_an_even_mark_with_more_ticks_to_the_quarter(self):
        calls = [mark(0, 500000, 1), mark(480, 250000)]
        self.assertEqual(times_after(calls, (0, 240, 480, 960)), [0, 218750, 375000, 625000])

    def test_an_even_mark_that_is_the_last_one_stays(self):
        self.assertEqual(times_after(TENS + [mark(4, 30, 1)], (4, 5, 1000000)), [40, 70, 29999920])
        self.assertEqual(times_after([begins(1), mark(0, 10, 1)], (1, 1000000)), [10, 10000000])

    def test_an_even_mark_that_is_no_longer_the_last_one(self):
        calls = [begins(1), mark(0, 10, 1)]
        self.assertEqual(times_after(calls, (4, 8)), [40, 80])
        self.assertEqual(times_after(calls + [mark(4, 30)], (4, 8)), [80, 200])

    def test_a_mark_at_tick_1000000(self):
        self.assertEqual(times_after(TENS + [mark(1000000, 30)], (1000000,)), [10000000])
        even = [begins(1), mark(0, 10, 1), mark(1000000, 30)]
        self.assertEqual(times_after(even, (500000, 1000000)), [7500000, 20000000])

    def test_time_changes_nothing(self):
        line = TENS + [mark(4, 30, 1)]
        self.assertEqual(asked(*line, time(7), time(2), time(7), time(1000001), time(7))[3:], [
            [0, 3, 130, 0, 1], [0, 3, 20, 0, 1], [0, 3, 130, 0, 1], [-1], [0, 3, 130, 0, 1],
        ])


class SwingsTest(unittest.TestCase):
    def test_through_two_pairs(self):
        calls = TWELVES + [swing(0, 8, 4, 2, 1)]
        self.assertEqual(times_after(calls, range(11)), [0, 16, 32, 40, 48, 64, 80, 88, 96, 108, 120])

    def test_a_at_b(self):
        for both in (1, 7, 20):
            with self.subTest(both=both):
                calls = TWELVES + [swing(0, 8, 4, both, both)]
                self.assertEqual(times_after(calls, range(10)), [12 * k for k in range(10)])

    def test_a_below_b(self):
        calls = TWELVES + [swing(0, 8, 4, 1, 2)]
        self.assertEqual(times_after(calls, range(10)), [0, 8, 16, 32, 48, 56, 64, 80, 96, 108])

    def test_greatest_and_least_shares(self):
        self.assertEqual(times_after([begins(1), mark(0, 21), swing(0, 4, 4, 20, 1)], range(5)), [0, 40, 80, 82, 84])
        self.assertEqual(times_after([begins(1), mark(0, 21), swing(0, 4, 4, 1, 20)], range(5)), [0, 2, 4, 44, 84])

    def test_a_pair_of_2(self):
        calls = TWELVES + [swing(0, 4, 2, 2, 1)]
        self.assertEqual(times_after(calls, range(6)), [0, 16, 24, 40, 48, 60])

    def test_a_pair_whose_half_is_odd(self):
        calls = TWELVES + [swing(0, 6, 6, 2, 1)]
        self.assertEqual(times_after(calls, range(8)), [0, 16, 32, 48, 56, 64, 72, 84])

    def test_before_and_behind_a_swing_places_are_where_they_are(self):
        calls = TWELVES + [swing(3, 7, 4, 2, 1)]
        self.assertEqual(times_after(calls, range(10)), [0, 12, 24, 36, 52, 68, 76, 84, 96, 108])

    def test_a_swing_that_begins_where_another_ends(self):
        one = swing(0, 4, 4, 2, 1)
        other = swing(4, 8, 4, 1, 2)
        expected = [0, 16, 32, 40, 48, 56, 64, 80, 96, 108]
        self.assertEqual(times_after(TWELVES + [one, other], range(10)), expected)
        self.assertEqual(times_after(TWELVES + [other, one], range(10)), expected)

    def test_something_left_in_lowest_terms(self):
        calls = [begins(1), mark(0, 1), swing(0, 2, 2, 3, 4)]
        self.assertEqual(times_after(calls, (0, 1, 2, 3)), [0, (0, 6, 7), 2, 3])

    def test_up_to_tick_1000000(self):
        calls = TWELVES + [swing(0, 1000000, 1000000, 2, 1)]
        self.assertEqual(times_after(calls, (1, 500000, 500001, 1000000)), [16, 8000000, 8000008, 12000000])

    def test_a_mark_within_a_pair(self):
        calls = TWELVES + [mark(3, 24), swing(0, 8, 8, 3, 1)]
        self.assertEqual(times_after(calls, range(10)), [0, 18, 36, 72, 108, 120, 132, 144, 156, 180])

    def test_a_mark_within_a_pair_that_a_place_comes_to_stand_before(self):
        calls = TWELVES + [mark(3, 24), swing(0, 8, 8, 1, 3)]
        self.assertEqual(times_after(calls, range(9)), [0, 6, 12, 18, 24, 48, 84, 120, 156])

    def test_an_even_mark_within_a_pair(self):
        calls = [begins(1), mark(0, 12), mark(2, 8, 1), mark(6, 16), swing(0, 8, 8, 3, 1)]
        # The places are 0, 3/2, 3, 9/2, 6, 13/2, 7, 15/2, 8.
        expected = [0, 18, 33, (50, 1, 4), 72, 80, 88, 96, 104]
        self.assertEqual(times_after(calls, range(9)), expected)

    def test_a_swing_of_a_piece_with_more_ticks_to_the_quarter(self):
        found = times_after([swing(480, 960, 480, 2, 1)], (480, 600, 720, 840, 960))
        self.assertEqual(found, [500000, (666666, 2, 3), (833333, 1, 3), (916666, 2, 3), 1000000])


class OrderTest(unittest.TestCase):
    def test_later_places_are_later(self):
        line = [
            begins(3), mark(0, 7, 1), mark(5, 1000), mark(11, 1, 1), mark(30, 900, 1), mark(31, 1),
            swing(0, 12, 6, 20, 1), swing(12, 20, 8, 1, 20), swing(24, 40, 2, 5, 3),
        ]
        answers = asked(*line, *[time(tick) for tick in range(60)])[len(line):]
        found = [(whole, upper / lower) for zero, three, whole, upper, lower in answers]
        for before, after in zip(found, found[1:]):
            self.assertLess(before, after)

    def test_after_begins(self):
        line = [begins(7), mark(0, 3, 1), mark(9, 4), swing(0, 8, 4, 3, 1)]
        self.assertEqual(asked_last(*line, begins(960), time(960)), [0, 3, 500000, 0, 1])
        self.assertEqual(times_after(line + [begins(960)], (1, 2, 3, 9)), times_after([begins(960)], (1, 2, 3, 9)))

"""Promise 6: moved."""

import unittest

from line import (
    AT_BEGINNING, FULL_OF_MARKS, GREATEST, HUNDREDS, asked, asked_last, at, begins, events, events_after, laid_open,
    mark, moved, note, pedal, sounds, sounds_after, swing, ticks_after, time, times_after,
)

SOME_OF_ALL = [
    begins(96), mark(0, 400000, 1), mark(960, 300000), swing(96, 960, 48, 3, 2), swing(0, 96, 96), pedal(7, 480),
    note(3, 5, 0, 40, 9, 75, 1), note(3, 5, 40, 40, 9, 50, 0),
]
KEPT = {
    "ticks": 96,
    "marks": [(0, 400000, 1), (960, 300000, 0)],
    "swings": [(96, 960, 48, 3, 2), (0, 96, 96, 2, 1)],
    "pedals": [(7, 480)],
    "notes": [(3, 5, 0, 40, 9, 75, 1), (3, 5, 40, 40, 9, 50, 0)],
}
KEPT_10_LATER = {
    "ticks": 96,
    "marks": [(0, 400000, 0), (10, 400000, 1), (970, 300000, 0)],
    "swings": [(106, 970, 48, 3, 2), (10, 106, 96, 2, 1)],
    "pedals": [(17, 490)],
    "notes": [(3, 5, 10, 40, 9, 75, 1), (3, 5, 50, 40, 9, 50, 0)],
}
# One of each that reaches to tick 999990, with nothing else beyond tick 0.
REACHING = (
    ("mark", mark(999990)),
    ("swing", swing(999900, 999990)),
    ("pedal", pedal(999900, 999990)),
    ("note", note(first=999900, length=90)),
    ("short note", note(first=999900, length=90, part=1)),
)


class MovedTest(unittest.TestCase):
    def test_answers_0(self):
        for ticks in (0, 1, 480, 1000000):
            with self.subTest(ticks=ticks):
                self.assertEqual(asked(moved(ticks)), [[0]])

    def test_by_0_nothing_is_changed(self):
        self.assertEqual(laid_open(moved(0)), AT_BEGINNING)
        self.assertEqual(laid_open(*SOME_OF_ALL, moved(0)), KEPT)
        self.assertEqual(asked(moved(0), mark(5)), [[0], [2]])

    def test_by_more_than_0_all_is_later(self):
        self.assertEqual(laid_open(*SOME_OF_ALL, moved(10)), KEPT_10_LATER)

    def test_the_mark_at_0(self):
        self.assertEqual(laid_open(moved(1))["marks"], [(0, 500000, 0), (1, 500000, 0)])
        line = [mark(0, 7, 1), mark(4, 9, 1), moved(3)]
        self.assertEqual(laid_open(*line)["marks"], [(0, 7, 0), (3, 7, 1), (7, 9, 1)])

    def test_twice(self):
        line = [mark(0, 7, 1), mark(4, 9), swing(0, 4), pedal(1, 2), note(first=3), moved(3), moved(2)]
        kept = laid_open(*line)
        self.assertEqual(kept["marks"], [(0, 7, 0), (2, 7, 0), (5, 7, 1), (9, 9, 0)])
        self.assertEqual(kept["swings"], [(5, 9, 2, 2, 1)])
        self.assertEqual(kept["pedals"], [(6, 7)])
        self.assertEqual(kept["notes"][0][2], 8)

    def test_how_many_there_are_after_it(self):
        line = [*SOME_OF_ALL, moved(10)]
        self.assertEqual(asked_last(*line, mark(11)), [4])
        self.assertEqual(asked_last(*line, mark(10)), [3])
        self.assertEqual(asked_last(*line, swing(0, 10)), [3])
        self.assertEqual(asked_last(*line, swing(0, 12)), [-3])
        self.assertEqual(asked_last(*line, swing(970, 972)), [3])
        self.assertEqual(asked_last(*line, pedal(16, 17)), [2])
        self.assertEqual(asked_last(*line, pedal(17, 18)), [-3])
        self.assertEqual(asked_last(*line, note()), [2])

    def test_a_mark_told_at_0_after_it(self):
        line = [begins(1), mark(0, 10), moved(2), mark(0, 30, 1)]
        self.assertEqual(times_after(line, (1, 2, 3)), [25, 40, 50])


class RefusedTest(unittest.TestCase):
    def test_edges_with_a_mark_at_0_alone(self):
        for ticks, answer in ((999999, 0), (1000000, 0), (1000001, -1), (GREATEST, -1)):
            with self.subTest(ticks=ticks):
                self.assertEqual(asked(moved(ticks)), [[answer]])

    def test_just_up_to_tick_1000000_and_one_beyond(self):
        for name, call in REACHING:
            for ticks, answer in ((9, 0), (10, 0), (11, -1), (1000000, -1), (1000001, -1), (GREATEST, -1)):
                with self.subTest(name=name, ticks=ticks):
                    self.assertEqual(asked_last(call, moved(ticks)), [answer])

    def test_the_one_that_reaches_farthest_counts_in_any_order(self):
        nearer = [mark(50), swing(0, 60), pedal(0, 70), note(first=0, length=80)]
        for name, call in REACHING:
            for line in ([call, *nearer], [*nearer, call]):
                with self.subTest(name=name, line=line):
                    self.assertEqual(asked_last(*line, moved(10)), [0])
                    self.assertEqual(asked_last(*line, moved(11)), [-1])

    def test_again_after_it_was_moved(self):
        for name, call in REACHING:
            with self.subTest(name=name):
                self.assertEqual(asked(call, moved(4), moved(7), moved(6), moved(1), moved(0))[1:], [
                    [0], [-1], [0], [-1], [0],
                ])

    def test_with_49_and_with_50_marks(self):
        self.assertEqual(asked_last(*FULL_OF_MARKS[:48], moved(1)), [0])
        self.assertEqual(asked_last(*FULL_OF_MARKS, moved(1)), [-5])
        line = [*FULL_OF_MARKS[:48], moved(1), moved(1), mark(999), mark(0)]
        self.assertEqual(asked(*line)[-4:], [[0], [-5], [-5], [50]])

    def test_by_0_with_50_marks(self):
        self.assertEqual(asked_last(*FULL_OF_MARKS, moved(0)), [0])
        self.assertEqual(laid_open(*FULL_OF_MARKS, moved(0)), laid_open(*FULL_OF_MARKS))

    def test_of_two_refusals_the_first(self):
        self.assertEqual(asked_last(*FULL_OF_MARKS, moved(999951)), [-5])
        self.assertEqual(asked_last(*FULL_OF_MARKS, moved(999952)), [-1])
        self.assertEqual(asked_last(*FULL_OF_MARKS, moved(GREATEST)), [-1])

    def test_after_a_refusal_all_is_as_it_was(self):
        for name, call in REACHING:
            with self.subTest(name=name):
                line = [*SOME_OF_ALL, call]
                self.assertEqual(asked_last(*line, moved(11)), [-1])
                self.assertEqual(laid_open(*line, moved(11)), laid_open(*line))
        line = [*SOME_OF_ALL, *[mark(2000 + k) for k in range(48)]]
        self.assertEqual(asked_last(*line, moved(1)), [-5])
        self.assertEqual(laid_open(*line, moved(1)), laid_open(*line))


class PlayedTest(unittest.TestCase):
    # The ticks stand at 0, 3/2, 3, 7/2, 4, and from 6 on a tick lasts 50.
    LINE = [
        *HUNDREDS, mark(6, 50), swing(0, 4, 4, 3, 1), pedal(5, 7), note(first=0, length=2, tied=1),
        note(first=2, length=1), note(pitch=61, first=3, length=4, part=50, loudness=9),
    ]

    def test_as_it_was(self):
        self.assertEqual(times_after(self.LINE, range(9)), [0, 150, 300, 350, 400, 500, 600, 650, 700])
        self.assertEqual(sounds_after(*self.LINE), [(0, 0, 0, 1, 350, 0, 1), (2, 350, 0, 1, 650, 0, 1)])

    def test_time(self):
        line = [*self.LINE, moved(3)]
        self.assertEqual(times_after(line, range(12)), [0, 100, 200, 300, 450, 600, 650, 700, 800, 900, 950, 1000])

    def test_at(self):
        line = [*self.LINE, moved(3)]
        self.assertEqual(ticks_after(line, (0, 299, 300, 449, 450, 649, 650, 949, 950)), [0, 2, 3, 3, 4, 5, 6, 9, 10])

    def test_sounds(self):
        line = [*self.LINE, moved(3)]
        self.assertEqual(sounds_after(*line), [(0, 300, 0, 1, 650, 0, 1), (2, 650, 0, 1, 950, 0, 1)])

    def test_events(self):
        line = [*self.LINE, moved(3)]
        self.assertEqual(events_after(*line), [
            (300, 1, 0, 60, 64, 0), (650, 0, 0, 60, 0, 0), (650, 1, 0, 61, 9, 2), (950, 0, 0, 61, 0, 2),
        ])

    def test_an_even_first_mark_goes_on_from_where_it_is_now(self):
        line = [begins(1), mark(0, 10, 1), mark(4, 30), moved(2)]
        self.assertEqual(times_after(line, range(8)), [0, 10, 20, (32, 1, 2), 50, (72, 1, 2), 100, 130])

    def test_an_even_mark_that_is_the_only_one(self):
        line = [begins(1), mark(0, 10, 1), moved(2)]
        self.assertEqual(times_after(line, range(4)), [0, 10, 20, 30])

    def test_twice(self):
        once = [*self.LINE, moved(3)]
        twice = [*self.LINE, moved(2), moved(1)]
        self.assertEqual(times_after(twice, range(12)), times_after(once, range(12)))
        for call in (sounds(), events(), at(640), time(1000000)):
            with self.subTest(call=call):
                self.assertEqual(asked_last(*twice, call), asked_last(*once, call))

    def test_by_0(self):
        for call in (sounds(), events(), at(640), time(3), time(1000000)):
            with self.subTest(call=call):
                self.assertEqual(asked_last(*self.LINE, moved(0), call), asked_last(*self.LINE, call))

    def test_a_note_told_after_it_is_where_it_is_told(self):
        line = [*HUNDREDS, note(first=0, length=4, tied=1), moved(3), note(first=7, length=1)]
        self.assertEqual(sounds_after(*line), [(0, 300, 0, 1, 800, 0, 1)])

    def test_what_is_asked_before_it_is_not_changed_by_it(self):
        line = [*self.LINE, sounds(), moved(3), sounds()]
        self.assertEqual(asked(*line)[len(self.LINE)], asked_last(*self.LINE, sounds()))

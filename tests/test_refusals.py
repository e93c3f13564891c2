"""A refusal leaves all as it was: what is played is the same before and after each kind of it."""

import unittest

from line import (
    FULL_OF_MARKS, GREATEST, asked, at, begins, events, mark, moved, note, pedal, sounds, swing, time,
)

PIECE = [
    begins(96), mark(0, 400000, 1), mark(384, 300000), mark(700, 350000, 1), mark(900, 200000),
    swing(96, 384, 48, 3, 2), swing(384, 480, 96), pedal(40, 100), pedal(300, 500),
    note(3, 5, 0, 40, 9, 75, 1), note(3, 5, 40, 70, 9, 50, 0), note(3, 5, 101, 301, 80, 99, 0),
    note(2, 5, 101, 301, 80, 33, 1), note(2, 5, 101, 20, 81, 100, 0),
]
ASKED = [time(0), time(120), time(999), time(1000000), at(0), at(1234567), at(GREATEST), sounds(), events()]

REFUSED = (
    ("begins", -1, (begins(0), begins(961), begins(GREATEST))),
    ("mark", -1, (mark(1000001), mark(384, 0), mark(384, 10000001), mark(0, 0))),
    ("swing", -1, (
        swing(600, 600), swing(610, 600), swing(600, 1000002), swing(600, 700, 3), swing(600, 700, 0),
        swing(600, 700, 30), swing(600, 700, 2, 0), swing(600, 700, 2, 1, 21),
    )),
    ("swing", -3, (swing(94, 98), swing(96, 384, 48, 3, 2), swing(478, 480), swing(0, 1000000))),
    ("pedal", -1, (pedal(600, 600), pedal(601, 600), pedal(600, 1000001))),
    ("pedal", -3, (pedal(99, 100), pedal(0, 41), pedal(300, 500), pedal(0, 1000000))),
    ("note", -1, (
        note(16), note(pitch=128), note(first=1000000), note(length=0), note(length=1000001), note(loudness=0),
        note(loudness=128), note(part=0), note(part=101),
    )),
    ("time", -1, (time(1000001), time(GREATEST))),
    ("moved", -1, (moved(999101), moved(1000001), moved(GREATEST))),
)
# What fills the piece up, then what is refused as there are too many.
TOO_MANY = (
    ("mark", [mark(1000 + k, 1000 * k + 1, k % 2) for k in range(46)], mark(5)),
    ("swing", [swing(1000 + 10 * k, 1010 + 10 * k) for k in range(28)], swing(900, 902)),
    ("pedal", [pedal(1000 + 10 * k, 1010 + 10 * k) for k in range(28)], pedal(101, 102)),
    ("note", [note(3, 5, 3 * k, 4, 9, 75, k % 2) for k in range(195)], note(3, 5, 41, 3)),
    ("moved", [mark(1000 + k, 1000 * k + 1, k % 2) for k in range(46)], moved(1)),
)


class RefusalsTest(unittest.TestCase):
    def same_before_and_after(self, line, refused, answer):
        before = asked(*line, *ASKED)[-len(ASKED):]
        after = asked(*line, refused, *ASKED)[-len(ASKED) - 1:]
        self.assertEqual(after, [[answer], *before])

    def test_of_numbers_and_of_ticks_in_common(self):
        for name, answer, calls in REFUSED:
            for call in calls:
                with self.subTest(name=name, call=call):
                    self.same_before_and_after(PIECE, call, answer)

    def test_of_too_many(self):
        for name, filling, refused in TOO_MANY:
            with self.subTest(name=name):
                answers = asked(*PIECE, *filling)
                self.assertTrue(all(answer[0] >= 0 for answer in answers))
                self.same_before_and_after(PIECE + filling, refused, -5)

    def test_at_a_lines_beginning(self):
        for name, answer, calls in REFUSED:
            if answer == -1:
                for call in calls:
                    if call != moved(999101):
                        with self.subTest(name=name, call=call):
                            self.same_before_and_after([], call, -1)

    def test_many_in_a_row(self):
        refused = [call for name, answer, calls in REFUSED for call in calls]
        before = asked(*PIECE, *ASKED)[-len(ASKED):]
        self.assertEqual(asked(*PIECE, *refused, *ASKED)[-len(ASKED):], before)

    def test_what_is_not_refused_goes_on_after_it(self):
        line = [*FULL_OF_MARKS, mark(60), moved(3), mark(49, 7, 1), moved(0), time(50)]
        self.assertEqual(asked(*line)[-5:], [[-5], [-5], [50], [0], [0, 3, 51041, 109, 160]])

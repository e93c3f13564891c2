"""What "Notes" says of events: times to the nearest whole number, which sounds have none, and their order."""

import unittest

from line import HUNDREDS, asked, asked_last, begins, events, events_after, mark, note, pedal, sounds_after, swing

# A tick lasts a hundredth.
HUNDREDTHS = [begins(100), mark(0, 1)]


def times_of(*calls):
    return [event[0] for event in events_after(*calls)]


class EventsTest(unittest.TestCase):
    def test_none(self):
        self.assertEqual(asked(events()), [[0]])

    def test_a_beginning_and_an_end(self):
        line = [note(voice=3, pitch=60, loudness=64)]
        self.assertEqual(asked_last(*line, events()), [2, 6, 0, 1, 3, 60, 64, 0, 6, 500000, 0, 3, 60, 0, 0])

    def test_loudness(self):
        for loudness in (1, 2, 127):
            with self.subTest(loudness=loudness):
                found = events_after(*HUNDREDS, note(first=0, length=1, loudness=loudness))
                self.assertEqual(found, [(0, 1, 0, 60, loudness, 0), (100, 0, 0, 60, 0, 0)])

    def test_of_a_tied_sound_the_first_note_counts(self):
        line = [note(2, 7, first=4, length=4, loudness=90), note(2, 7, first=0, length=4, loudness=30, tied=1)]
        self.assertEqual(events_after(*HUNDREDS, *line), [(0, 1, 2, 7, 30, 1), (800, 0, 2, 7, 0, 1)])

    def test_events_change_nothing(self):
        line = [note(), note(first=240)]
        once, again = asked(*line, events(), events())[-2:]
        self.assertEqual(once, again)


class NearestTest(unittest.TestCase):
    def test_beginnings_to_the_nearest_halves_up(self):
        for first, found in (
            (0, 0), (1, 0), (49, 0), (50, 1), (51, 1), (99, 1), (100, 1), (149, 1), (150, 2), (250, 3),
        ):
            with self.subTest(first=first):
                self.assertEqual(times_of(*HUNDREDTHS, note(first=first, length=1000))[0], found)

    def test_ends_to_the_nearest_halves_up(self):
        for length, found in ((50, 1), (51, 1), (149, 1), (150, 2), (249, 2), (250, 3), (300, 3)):
            with self.subTest(length=length):
                self.assertEqual(times_of(*HUNDREDTHS, note(first=0, length=length))[1], found)

    def test_great_times(self):
        # Tick 999999 is at 1041665625, tick 1000000 at 1041666666 2/3.
        self.assertEqual(times_of(note(first=999999, length=1)), [1041665625, 1041666667])

    def test_an_end_between_ticks(self):
        line = [begins(1), mark(0, 1)]
        self.assertEqual(times_of(*line, note(first=0, length=3, part=50)), [0, 2])
        self.assertEqual(times_of(*line, note(first=0, length=3, part=49)), [0, 1])

    def test_a_sound_whose_end_is_not_after_its_beginning_then(self):
        for first, length, found in (
            (0, 49, []), (0, 50, [0, 1]), (49, 1, [0, 1]), (50, 99, []), (50, 100, [1, 2]), (60, 80, []),
            (149, 1, [1, 2]), (150, 99, []), (150, 100, [2, 3]),
        ):
            with self.subTest(first=first, length=length):
                self.assertEqual(times_of(*HUNDREDTHS, note(first=first, length=length)), found)

    def test_it_is_a_sound_all_the_same(self):
        line = [*HUNDREDTHS, note(first=60, length=80)]
        self.assertEqual(asked_last(*line, events()), [0])
        self.assertEqual(sounds_after(*line), [(0, 0, 3, 5, 1, 2, 5)])

    def test_one_that_is_ended_where_it_begins(self):
        line = [note(first=0, length=4), note(first=0, length=2)]
        self.assertEqual(events_after(*HUNDREDS, *line), [(0, 1, 0, 60, 64, 1), (200, 0, 0, 60, 0, 1)])

    def test_one_that_is_left_out_still_ends_the_one_before(self):
        line = [note(first=0, length=1000), note(first=300, length=1), note(first=900, length=100)]
        found = [event[:2] + event[-1:] for event in events_after(*HUNDREDTHS, *line)]
        self.assertEqual(found, [(0, 1, 0), (3, 0, 0), (9, 1, 2), (10, 0, 2)])


class OrderTest(unittest.TestCase):
    def test_by_time(self):
        line = [note(pitch=9, first=6, length=2), note(pitch=8, first=3, length=9), note(pitch=7, first=0, length=4)]
        self.assertEqual(times_of(*HUNDREDS, *line), [0, 300, 400, 600, 800, 1200])

    def test_ends_first(self):
        line = [note(voice=0, pitch=0, first=4, length=4), note(voice=15, pitch=127, first=0, length=4)]
        found = [event[:4] for event in events_after(*HUNDREDS, *line)]
        self.assertEqual(found, [(0, 1, 15, 127), (400, 0, 15, 127), (400, 1, 0, 0), (800, 0, 0, 0)])

    def test_ends_first_where_times_are_the_same_when_rounded_alone(self):
        # The first ends at 104/100, the other begins at 96/100.
        line = [note(voice=1, first=0, length=104), note(voice=0, first=96, length=200)]
        found = [event[:3] for event in events_after(*HUNDREDTHS, *line)]
        self.assertEqual(found, [(0, 1, 1), (1, 0, 1), (1, 1, 0), (3, 0, 0)])

    def test_then_by_voices(self):
        line = [note(voice=voice, pitch=20 - voice, first=0, length=1) for voice in (9, 10, 2, 15, 0)]
        found = [event[1:3] for event in events_after(*HUNDREDS, *line)]
        self.assertEqual(found, [(1, v) for v in (0, 2, 9, 10, 15)] + [(0, v) for v in (0, 2, 9, 10, 15)])

    def test_then_by_pitches(self):
        line = [note(voice=4, pitch=pitch, first=0, length=1) for pitch in (9, 100, 10, 127, 0)]
        found = [(event[1], event[3], event[5]) for event in events_after(*HUNDREDS, *line)]
        order = ((0, 4), (9, 0), (10, 2), (100, 1), (127, 3))
        self.assertEqual(found, [(1, *pair) for pair in order] + [(0, *pair) for pair in order])

    def test_voices_go_ahead_of_pitches_and_of_numbers(self):
        line = [note(voice=1, pitch=3, first=0, length=1), note(voice=0, pitch=5, first=0, length=1)]
        found = [event[2:4] for event in events_after(*HUNDREDS, *line)]
        self.assertEqual(found, [(0, 5), (1, 3), (0, 5), (1, 3)])

    def test_one_struck_anew(self):
        line = [note(first=0, length=4, loudness=5), note(first=2, length=4, loudness=6)]
        found = [(0, 1, 0, 60, 5, 0), (200, 0, 0, 60, 0, 0), (200, 1, 0, 60, 6, 1), (600, 0, 0, 60, 0, 1)]
        self.assertEqual(events_after(*HUNDREDS, *line), found)

    def test_struck_anew_by_one_with_a_smaller_number(self):
        line = [note(first=2, length=4, loudness=6), note(first=0, length=4, loudness=5)]
        found = [(0, 1, 0, 60, 5, 1), (200, 0, 0, 60, 0, 1), (200, 1, 0, 60, 6, 0), (600, 0, 0, 60, 0, 0)]
        self.assertEqual(events_after(*HUNDREDS, *line), found)

    def test_swung_and_held(self):
        # The ticks stand at 0, 3/2, 3, 7/2, 4.
        line = [swing(0, 4, 4, 3, 1), pedal(2, 3), note(first=1, length=1), note(pitch=61, first=0, length=1)]
        found = [event[:2] + event[-1:] for event in events_after(*HUNDREDS, *line)]
        self.assertEqual(found, [(0, 1, 1), (150, 0, 1), (150, 1, 0), (350, 0, 0)])

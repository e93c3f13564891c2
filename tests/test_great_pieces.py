"""Great pieces, in lines of up to 250 calls, held against another reckoning that goes by the document's words."""

import unittest
from fractions import Fraction
from math import floor

from line import (
    GREATEST, asked, at, begins, events, joined, laid_open, mark, moved, note, pedal, rows, sounds, swing, time,
)


class Reckoned:
    """What is played of a piece, reckoned by Python's own fractions and by times alone."""

    def __init__(self, calls):
        kept = laid_open(*calls)
        self.ticks = kept["ticks"]
        self.marks = kept["marks"]
        self.swings = kept["swings"]
        self.pedals = kept["pedals"]
        self.notes = kept["notes"]
        self.known = {}

    def swung(self, place):
        for first, last, pair, a, b in self.swings:
            for beginning in range(first, last, pair) if first <= place < last else ():
                if beginning <= place < beginning + pair:
                    r = place - beginning
                    if r <= Fraction(pair, 2):
                        return beginning + 2 * r * Fraction(a, a + b)
                    return beginning + Fraction(pair * a, a + b) + (2 * r - pair) * Fraction(b, a + b)
        return place

    def time(self, place):
        if place not in self.known:
            self.known[place] = self.time_up_to(self.swung(Fraction(place)))
        return self.known[place]

    def time_up_to(self, place):
        """The mean length from each mark to the next, or to the place, for as many ticks as that is."""
        passed = Fraction(0)
        ends = self.marks[1:] + [None]
        for (tick, length, even), following in zip(self.marks, ends):
            if tick >= place:
                break
            until = place if following is None else min(place, Fraction(following[0]))
            reached = Fraction(length)
            if even and following is not None:
                reached += (following[1] - length) * (until - tick) / (following[0] - tick)
            passed += (length + reached) / 2 * (until - tick)
        return passed / self.ticks

    def tied_to(self, number):
        voice, pitch, first, length, loudness, part, tied = self.notes[number]
        for other, its in enumerate(self.notes):
            if tied and its[:3] == (voice, pitch, first + length):
                return other
        return None

    def end_of(self, number):
        while self.tied_to(number) is not None:
            number = self.tied_to(number)
        voice, pitch, first, length, loudness, part, tied = self.notes[number]
        place = first + Fraction(part * length, 100)
        for down, up in self.pedals:
            if down <= place < up:
                return self.time(up)
        return self.time(place)

    def sounds(self):
        begun = {self.tied_to(number) for number in range(len(self.notes))}
        alone = [number for number in range(len(self.notes)) if number not in begun]
        begins_at = {number: self.time(self.notes[number][2]) for number in alone}
        found = []
        for number in alone:
            later = [
                begins_at[other] for other in alone
                if self.notes[other][:2] == self.notes[number][:2]
                and (begins_at[other], other) > (begins_at[number], number)
            ]
            found.append((number, begins_at[number], min([self.end_of(number), *later])))
        return found

    def events(self):
        found = []
        for number, begins_at, ends_at in self.sounds():
            voice, pitch, first, length, loudness, part, tied = self.notes[number]
            start = floor(begins_at + Fraction(1, 2))
            end = floor(ends_at + Fraction(1, 2))
            if start < end:
                found.append((start, 1, voice, pitch, loudness, number))
                found.append((end, 0, voice, pitch, 0, number))
        return sorted(found, key=lambda event: event[:4] + event[5:])


def three_numbers(time):
    whole = floor(time)
    return (whole, (time - whole).numerator, (time - whole).denominator)


class Scattered:
    """Numbers that look scattered, and are the same each time."""

    def __init__(self, seed):
        self.state = seed

    def up_to(self, least, greatest):
        self.state = (self.state * 6364136223846793005 + 1442695040888963407) % 2 ** 64
        return least + (self.state >> 33) % (greatest - least + 1)


def scattered_piece(seed, reach, marks, spans, notes):
    some = Scattered(seed)
    calls = [begins(some.up_to(1, 960))]
    calls += [mark(some.up_to(0, reach), some.up_to(1, 10000000), some.up_to(0, 1)) for k in range(marks)]
    each = reach // spans
    for k in range(spans):
        half = some.up_to(1, each // 4)
        pair = 2 * half
        calls.append(swing(each * k, each * k + each // pair * pair, pair, some.up_to(1, 20), some.up_to(1, 20)))
        down = some.up_to(each * k, each * k + each - 2)
        calls.append(pedal(down, some.up_to(down + 1, each * k + each)))
    for k in range(notes):
        # Few voices, pitches and lengths, so that many are tied and many end one another.
        length = each // some.up_to(1, 4)
        first = some.up_to(0, (reach - length) // (each // 4)) * (each // 4)
        loudness = some.up_to(1, 127)
        part = some.up_to(1, 100)
        calls.append(note(some.up_to(0, 1), some.up_to(60, 61), first, length, loudness, part, some.up_to(0, 1)))
    return calls


class GreatPiecesTest(unittest.TestCase):
    def held(self, calls, ticks, times):
        """All that can be asked of a piece, in the one line that tells it."""
        line = [*calls, *[time(tick) for tick in ticks], *[at(when) for when in times], sounds(), events()]
        self.assertLessEqual(len(line), 250)
        answers = asked(*line)
        reckoned = Reckoned(calls)
        for tick, answer in zip(ticks, answers[len(calls):]):
            self.assertEqual(answer, [0, 3, *three_numbers(reckoned.time(tick))])
        for when, answer in zip(times, answers[len(calls) + len(ticks):]):
            self.assertEqual(len(answer), 1)
            self.assertLessEqual(reckoned.time(answer[0]), when)
            if answer[0] < 1000000:
                self.assertGreater(reckoned.time(answer[0] + 1), when)
        expected = [(number, *three_numbers(start), *three_numbers(end)) for number, start, end in reckoned.sounds()]
        self.assertEqual(rows(answers[-2]), expected)
        self.assertEqual(rows(answers[-1]), reckoned.events())
        self.take_turns(rows(answers[-1]))
        return expected

    def take_turns(self, found):
        sounding = {}
        for when, kind, voice, pitch, loudness, number in found:
            if kind == 1:
                self.assertNotIn((voice, pitch), sounding)
                sounding[voice, pitch] = number
            else:
                self.assertEqual(sounding.pop((voice, pitch)), number)
        self.assertEqual(sounding, {})

    def test_200_notes_each_tied_to_the_next(self):
        calls = [note(first=3 * k, length=3, part=50, tied=1) for k in range(200)]
        self.assertEqual(len(self.held(calls, range(0, 600, 30), range(0, 10 ** 6, 50000))), 1)

    def test_200_notes_each_tied_to_the_one_told_before(self):
        calls = [note(first=3 * k, length=3, part=50, tied=1) for k in reversed(range(200))]
        found = self.held(calls, (), ())
        self.assertEqual([sound[0] for sound in found], [199])

    def test_200_notes_that_end_one_another(self):
        calls = [note(first=7 * k, length=900, loudness=k % 127 + 1) for k in range(200)]
        self.assertEqual(len(self.held(calls, range(0, 600, 30), range(0, 10 ** 6, 50000))), 200)

    def test_200_notes_that_begin_together(self):
        calls = [note(first=7, length=200 - k) for k in range(200)]
        found = self.held(calls, (), ())
        self.assertEqual(len(found), 200)
        self.assertEqual(asked(*calls, events())[-1][0], 2)

    def test_199_notes_tied_to_the_same_one(self):
        calls = [note(first=k, length=199 - k, tied=1) for k in range(199)] + [note(first=199, length=5)]
        self.assertEqual(len(self.held(calls, (), ())), 199)

    def test_200_notes_held_by_one_pedal(self):
        calls = [pedal(0, 5000)] + [note(voice=k % 16, pitch=k % 128, first=5 * k, length=3) for k in range(200)]
        self.held(calls, (), ())

    def test_50_marks_30_swings_30_pedals_and_as_many_notes_as_there_is_room_for(self):
        calls = [mark(0, 600000, 1)]
        calls += [mark(977 * k, 10000000 // k, k % 3 % 2) for k in range(1, 50)]
        calls += [swing(1600 * k, 1600 * k + 1440, 480, k % 20 + 1, 7 * k % 20 + 1) for k in range(30)]
        calls += [pedal(1600 * k + 777, 1600 * k + 1777) for k in range(30)]
        calls += [
            note(k % 3, 60 + k % 2, 311 * k, 622 if k % 2 else 933, k + 1, k % 100 + 1, k % 4 % 2) for k in range(120)
        ]
        self.assertEqual(len(calls), 230)
        ticks = (0, 1, 976, 977, 978, 20000, 49999, 999999, 1000000)
        self.held(calls, ticks, (0, 1, 10 ** 6, 10 ** 7, 10 ** 8, GREATEST))

    def test_many_times_and_ats(self):
        calls = [begins(960), mark(0, 1)] + [mark(3 * k, 3 * k * k, 1) for k in range(1, 49)]
        calls += [swing(2 * k, 2 * k + 2, 2, 20 - k % 20, k % 20 + 1) for k in range(30)]
        self.held(calls, range(0, 100, 2), range(0, 500, 6))

    def test_scattered_pieces(self):
        for seed in range(12):
            with self.subTest(seed=seed):
                calls = scattered_piece(seed, 2000, 20, 20, 100)
                self.held(calls, range(0, 2000, 97), [seed * 10 ** k for k in range(9)])

    def test_scattered_pieces_over_all_ticks(self):
        for seed in range(100, 106):
            with self.subTest(seed=seed):
                calls = scattered_piece(seed, 1000000, 49, 30, 60)
                self.held(calls, (*range(0, 1000000, 99991), 1000000), [seed * 10 ** k for k in range(8)])

    def test_scattered_pieces_moved(self):
        for seed in range(200, 206):
            with self.subTest(seed=seed):
                calls = scattered_piece(seed, 2000, 20, 20, 100) + [moved(7), moved(0), moved(991)]
                self.held(calls, range(0, 3000, 97), [seed * 10 ** k for k in range(9)])

    def test_sounds_and_events_asked_over_and_over(self):
        calls = [note(voice=k % 2, first=5 * k, length=9 + k % 7, tied=k % 2) for k in range(125)]
        answers = asked(*joined([[call, events() if k % 2 else sounds()] for k, call in enumerate(calls)]))
        self.assertEqual(len(answers), 250)
        for k in (0, 1, 2, 3, 50, 51, 123, 124):
            reckoned = Reckoned(calls[:k + 1])
            if k % 2:
                self.assertEqual(rows(answers[2 * k + 1]), reckoned.events())
            else:
                self.assertEqual([row[0] for row in rows(answers[2 * k + 1])], [row[0] for row in reckoned.sounds()])

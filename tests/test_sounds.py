"""What "Notes" says of sounds: ties, parts, pedals, and sounds that end one another."""

import unittest

from line import HUNDREDS, asked, asked_last, begins, mark, note, pedal, sounds, sounds_after, swing


def played(*calls):
    """The sounds where a tick lasts 100, as a note, the time where it begins, the time where it ends."""
    found = []
    for number, begins_at, upper, lower, ends_at, end_upper, end_lower in sounds_after(*HUNDREDS, *calls):
        if (upper, lower, end_upper, end_lower) != (0, 1, 0, 1):
            raise AssertionError("not a whole time")
        found.append((number, begins_at, ends_at))
    return found


class OneSoundTest(unittest.TestCase):
    def test_none(self):
        self.assertEqual(asked(sounds()), [[0]])

    def test_one(self):
        self.assertEqual(asked_last(note(), sounds()), [1, 7, 0, 0, 0, 1, 500000, 0, 1])

    def test_two(self):
        line = [note(first=1, length=1), note(voice=1, first=0, length=2)]
        answer = [2, 7, 0, 1041, 2, 3, 2083, 1, 3, 7, 1, 0, 0, 1, 2083, 1, 3]
        self.assertEqual(asked_last(*line, sounds()), answer)

    def test_by_notes_numbers_whenever_they_begin(self):
        line = [note(first=9, length=1), note(pitch=5, first=4, length=1), note(voice=3, first=0, length=1)]
        self.assertEqual(played(*line), [(0, 900, 1000), (1, 400, 500), (2, 0, 100)])

    def test_begins_and_ends_in_lowest_terms(self):
        line = [begins(6), mark(0, 4), note(first=1, length=2, part=25)]
        # The tick lasts 2/3, so the places 1 and 3/2 are at 2/3 and at 1.
        self.assertEqual(sounds_after(*line), [(0, 0, 2, 3, 1, 0, 1)])

    def test_ends_at_tick_1000000(self):
        self.assertEqual(played(note(first=999999, length=1)), [(0, 99999900, 100000000)])
        self.assertEqual(played(note(first=0, length=1000000)), [(0, 0, 100000000)])

    def test_sounds_change_nothing(self):
        line = [note(), note(first=240)]
        once, again = asked(*line, sounds(), sounds())[-2:]
        self.assertEqual(once, again)


class PartTest(unittest.TestCase):
    def test_part_hundredths_of_the_length(self):
        for part, ends_at in ((1, 401), (50, 450), (99, 499), (100, 500)):
            with self.subTest(part=part):
                self.assertEqual(played(note(first=4, length=1, part=part)), [(0, 400, ends_at)])

    def test_of_longer_notes(self):
        for length, part, ends_at in ((3, 1, 403), (3, 50, 550), (7, 99, 1093), (7, 100, 1100), (200, 1, 600)):
            with self.subTest(length=length, part=part):
                self.assertEqual(played(note(first=4, length=length, part=part)), [(0, 400, ends_at)])

    def test_places_between_ticks(self):
        # A tick lasts 10, so a hundredth lasts 1/10.
        line = [begins(1), mark(0, 10)]
        for part, ends in ((1, (0, 1, 10)), (50, (5, 0, 1)), (99, (9, 9, 10)), (100, (10, 0, 1))):
            with self.subTest(part=part):
                self.assertEqual(sounds_after(*line, note(first=0, length=1, part=part)), [(0, 0, 0, 1, *ends)])

    def test_between_ticks_as_a_mark_goes_evenly(self):
        # The place 3/2 behind the mark of 10 that goes to 30 over 4 ticks: 15 and 20 times 9/4 over 8.
        line = [begins(1), mark(0, 10, 1), mark(4, 30), note(first=1, length=1, part=50)]
        self.assertEqual(sounds_after(*line), [(0, 12, 1, 2, 20, 5, 8)])

    def test_between_ticks_behind_a_mark(self):
        line = [mark(3, 40), note(first=2, length=4, part=50), note(pitch=1, first=2, length=1, part=50)]
        self.assertEqual(played(*line), [(0, 200, 340), (1, 200, 250)])


class TieTest(unittest.TestCase):
    def test_tied_with_no_note_to_be_tied_to(self):
        self.assertEqual(played(note(first=0, length=4, tied=1)), [(0, 0, 400)])

    def test_tied_to_none_the_part_counts(self):
        self.assertEqual(played(note(first=0, length=4, part=50, tied=1)), [(0, 0, 200)])

    def test_tied_to_the_next(self):
        line = [note(first=0, length=4, tied=1), note(first=4, length=3)]
        self.assertEqual(played(*line), [(0, 0, 700)])

    def test_not_tied(self):
        line = [note(first=0, length=4), note(first=4, length=3)]
        self.assertEqual(played(*line), [(0, 0, 400), (1, 400, 700)])

    def test_the_last_notes_part_counts_alone(self):
        line = [note(first=0, length=4, part=1, tied=1), note(first=4, length=4, part=75)]
        self.assertEqual(played(*line), [(0, 0, 700)])

    def test_to_the_note_that_begins_where_it_ends_whatever_its_part(self):
        line = [note(first=0, length=4, part=50, tied=1), note(first=2, length=1), note(first=4, length=1)]
        self.assertEqual(played(*line), [(0, 0, 200), (1, 200, 300)])

    def test_not_to_one_that_begins_a_tick_earlier_or_later(self):
        for first in (3, 5):
            with self.subTest(first=first):
                line = [note(first=0, length=4, part=25, tied=1), note(first=first, length=2)]
                self.assertEqual(played(*line), [(0, 0, 100), (1, 100 * first, 100 * first + 200)])

    def test_to_the_first_of_several_by_numbers(self):
        line = [
            note(first=0, length=4, tied=1), note(first=4, length=8, part=50), note(first=4, length=2, part=50),
        ]
        # Note 2 makes a sound of its own, and ends the other one where it begins.
        self.assertEqual(played(*line), [(0, 0, 400), (2, 400, 500)])

    def test_the_first_of_several_may_have_a_smaller_number(self):
        line = [
            note(first=4, length=8, part=50), note(first=0, length=4, tied=1), note(first=4, length=2, part=50),
        ]
        self.assertEqual(played(*line), [(1, 0, 400), (2, 400, 500)])

    def test_a_chain(self):
        line = [
            note(first=0, length=4, tied=1), note(first=4, length=2, tied=1), note(first=6, length=1, tied=1),
            note(first=7, length=2, part=50),
        ]
        self.assertEqual(played(*line), [(0, 0, 800)])

    def test_a_chain_whose_later_notes_have_smaller_numbers(self):
        line = [
            note(first=7, length=2, part=50), note(first=4, length=2, tied=1), note(first=6, length=1, tied=1),
            note(first=0, length=4, tied=1),
        ]
        self.assertEqual(played(*line), [(3, 0, 800)])

    def test_a_chain_that_breaks_off(self):
        line = [
            note(first=0, length=4, tied=1), note(first=4, length=2), note(first=6, length=1, tied=1),
            note(first=7, length=2, tied=1),
        ]
        self.assertEqual(played(*line), [(0, 0, 600), (2, 600, 900)])

    def test_two_notes_tied_to_the_same_one(self):
        line = [note(first=0, length=4, tied=1), note(first=2, length=2, tied=1), note(first=4, length=4)]
        self.assertEqual(played(*line), [(0, 0, 200), (1, 200, 800)])

    def test_two_notes_tied_to_the_same_one_that_begin_together(self):
        line = [note(first=4, length=4), note(first=0, length=4, tied=1), note(first=0, length=4, tied=1)]
        self.assertEqual(played(*line), [(1, 0, 0), (2, 0, 800)])

    def test_not_to_another_voice_or_pitch(self):
        for other in ({"voice": 1}, {"pitch": 61}, {"voice": 1, "pitch": 61}):
            with self.subTest(other=other):
                line = [note(first=0, length=4, tied=1), note(first=4, length=3, **other)]
                self.assertEqual(played(*line), [(0, 0, 400), (1, 400, 700)])

    def test_past_one_of_another_voice_or_pitch(self):
        line = [
            note(first=0, length=4, tied=1), note(voice=1, first=4, length=1), note(pitch=61, first=4, length=2),
            note(first=4, length=3),
        ]
        self.assertEqual(played(*line), [(0, 0, 700), (1, 400, 500), (2, 400, 600)])

    def test_of_two_voices_each_has_its_own(self):
        line = [
            note(voice=1, first=0, length=4, tied=1), note(voice=2, first=0, length=4, tied=1),
            note(voice=2, first=4, length=1), note(voice=1, first=4, length=2),
        ]
        self.assertEqual(played(*line), [(0, 0, 600), (1, 0, 500)])

    def test_to_a_note_told_after_sounds_was_asked(self):
        line = [*HUNDREDS, note(first=0, length=4, tied=1), sounds(), note(first=4, length=3), sounds()]
        answers = asked(*line)
        self.assertEqual(answers[3], [1, 7, 0, 0, 0, 1, 400, 0, 1])
        self.assertEqual(answers[5], [1, 7, 0, 0, 0, 1, 700, 0, 1])


class PedalTest(unittest.TestCase):
    def test_down_at_the_end(self):
        for first, last in ((4, 5), (0, 9), (3, 7), (4, 1000000)):
            with self.subTest(first=first, last=last):
                self.assertEqual(played(note(first=0, length=4), pedal(first, last)), [(0, 0, 100 * last)])

    def test_one_that_comes_up_just_there(self):
        self.assertEqual(played(note(first=0, length=4), pedal(0, 4)), [(0, 0, 400)])

    def test_one_that_goes_down_just_there(self):
        self.assertEqual(played(note(first=0, length=4), pedal(4, 9)), [(0, 0, 900)])

    def test_one_that_goes_down_later_or_is_up_before(self):
        self.assertEqual(played(note(first=0, length=4), pedal(5, 9)), [(0, 0, 400)])
        self.assertEqual(played(note(first=0, length=4), pedal(0, 3)), [(0, 0, 400)])

    def test_down_between_two_ticks(self):
        for first, last, part, ends_at in (
            (3, 4, 99, 400), (3, 4, 76, 400), (3, 4, 75, 400), (3, 4, 74, 296), (3, 4, 100, 400),
            (4, 6, 99, 396), (4, 6, 100, 600), (0, 3, 74, 300), (0, 3, 75, 300), (0, 3, 76, 304),
        ):
            with self.subTest(first=first, last=last, part=part):
                self.assertEqual(played(note(first=0, length=4, part=part), pedal(first, last)), [(0, 0, ends_at)])

    def test_it_is_asked_at_the_end_of_the_part_not_of_the_note(self):
        self.assertEqual(played(note(first=0, length=4, part=50), pedal(4, 9)), [(0, 0, 200)])
        self.assertEqual(played(note(first=0, length=4, part=50), pedal(2, 3)), [(0, 0, 300)])

    def test_one_that_begins_where_another_ends_does_not_hold_on(self):
        self.assertEqual(played(note(first=0, length=4), pedal(3, 6), pedal(6, 9)), [(0, 0, 600)])

    def test_where_one_comes_up_and_another_goes_down_the_other_is_down(self):
        self.assertEqual(played(note(first=0, length=4), pedal(0, 4), pedal(4, 9)), [(0, 0, 900)])
        self.assertEqual(played(note(first=0, length=4), pedal(4, 9), pedal(0, 4)), [(0, 0, 900)])

    def test_of_several_the_one_that_is_down(self):
        line = [pedal(9, 12), pedal(0, 2), pedal(3, 8), note(first=0, length=4), note(pitch=1, first=0, length=9)]
        self.assertEqual(played(*line), [(0, 0, 800), (1, 0, 1200)])

    def test_of_a_tied_sound_it_is_asked_at_its_last_notes_end(self):
        line = [note(first=0, length=4, tied=1), note(first=4, length=4)]
        self.assertEqual(played(*line, pedal(3, 7)), [(0, 0, 800)])
        self.assertEqual(played(*line, pedal(8, 10)), [(0, 0, 1000)])

    def test_all_voices_are_held(self):
        line = [note(voice=1, first=0, length=4), note(voice=2, first=1, length=4), pedal(4, 6)]
        self.assertEqual(played(*line), [(0, 0, 600), (1, 100, 600)])

    def test_one_told_after_sounds_was_asked(self):
        answers = asked(*HUNDREDS, note(first=0, length=4), sounds(), pedal(4, 6), sounds())
        self.assertEqual((answers[3][-3:], answers[5][-3:]), ([400, 0, 1], [600, 0, 1]))


class EndedTest(unittest.TestCase):
    def test_by_one_that_begins_later(self):
        self.assertEqual(played(note(first=0, length=8), note(first=5, length=8)), [(0, 0, 500), (1, 500, 1300)])

    def test_by_one_that_begins_later_with_a_smaller_number(self):
        self.assertEqual(played(note(first=5, length=8), note(first=0, length=8)), [(0, 500, 1300), (1, 0, 500)])

    def test_by_one_within_it(self):
        self.assertEqual(played(note(first=0, length=8), note(first=2, length=1)), [(0, 0, 200), (1, 200, 300)])

    def test_by_one_that_begins_at_the_same_time_with_a_greater_number(self):
        self.assertEqual(played(note(first=3, length=8), note(first=3, length=2)), [(0, 300, 300), (1, 300, 500)])
        self.assertEqual(played(note(first=3, length=2), note(first=3, length=8)), [(0, 300, 300), (1, 300, 1100)])

    def test_three_that_begin_at_the_same_time(self):
        line = [note(first=3, length=8), note(first=3, length=2), note(first=3, length=4)]
        self.assertEqual(played(*line), [(0, 300, 300), (1, 300, 300), (2, 300, 700)])

    def test_by_the_next_one_not_by_a_later_one(self):
        line = [note(first=0, length=20), note(first=9, length=1), note(first=4, length=1), note(first=6, length=9)]
        self.assertEqual(played(*line), [(0, 0, 400), (1, 900, 1000), (2, 400, 500), (3, 600, 900)])

    def test_not_if_it_ends_earlier(self):
        self.assertEqual(played(note(first=0, length=4), note(first=5, length=1)), [(0, 0, 400), (1, 500, 600)])
        self.assertEqual(played(note(first=0, length=8, part=50), note(first=5, length=1))[0], (0, 0, 400))

    def test_not_if_it_ends_just_there(self):
        self.assertEqual(played(note(first=0, length=4), note(first=4, length=1)), [(0, 0, 400), (1, 400, 500)])

    def test_between_ticks(self):
        self.assertEqual(played(note(first=0, length=4, part=99), note(first=3, length=1))[0], (0, 0, 300))
        self.assertEqual(played(note(first=0, length=4, part=76), note(first=3, length=1))[0], (0, 0, 300))
        self.assertEqual(played(note(first=0, length=4, part=74), note(first=3, length=1))[0], (0, 0, 296))

    def test_not_by_other_voices_or_pitches(self):
        line = [
            note(first=0, length=8), note(voice=1, first=5, length=8), note(pitch=61, first=5, length=8),
            note(voice=1, pitch=61, first=5, length=8),
        ]
        self.assertEqual(played(*line), [(0, 0, 800), (1, 500, 1300), (2, 500, 1300), (3, 500, 1300)])

    def test_past_other_voices_and_pitches(self):
        line = [
            note(first=0, length=8), note(voice=1, first=2, length=1), note(pitch=61, first=3, length=1),
            note(first=5, length=8),
        ]
        self.assertEqual(played(*line), [(0, 0, 500), (1, 200, 300), (2, 300, 400), (3, 500, 1300)])

    def test_held_by_a_pedal_till_it_is_struck_anew(self):
        line = [note(first=0, length=2), note(first=5, length=2), pedal(1, 9)]
        self.assertEqual(played(*line), [(0, 0, 500), (1, 500, 900)])

    def test_a_tied_sound_is_ended_within_its_second_note(self):
        line = [note(first=0, length=4, tied=1), note(first=4, length=8), note(first=6, length=1)]
        self.assertEqual(played(*line), [(0, 0, 600), (2, 600, 700)])

    def test_not_by_a_note_that_makes_no_sound_of_its_own(self):
        line = [note(first=0, length=4, tied=1), note(first=4, length=4), note(first=2, length=2, tied=1)]
        self.assertEqual(played(*line), [(0, 0, 200), (2, 200, 800)])

    def test_one_that_is_ended_at_once_still_ends_the_one_before(self):
        line = [note(first=0, length=9), note(first=3, length=2), note(first=3, length=1)]
        self.assertEqual(played(*line), [(0, 0, 300), (1, 300, 300), (2, 300, 400)])


class SwungTest(unittest.TestCase):
    def test_beginnings_and_ends_are_swung(self):
        # The ticks stand at 0, 3/2, 3, 7/2, 4.
        line = [swing(0, 4, 4, 3, 1), note(first=1, length=1), note(pitch=1, first=2, length=1)]
        self.assertEqual(played(*line), [(0, 150, 300), (1, 300, 350)])

    def test_ends_between_ticks_are_swung(self):
        line = [
            swing(0, 4, 4, 3, 1), note(first=0, length=4, part=1), note(pitch=1, first=0, length=4, part=25),
            note(pitch=2, first=0, length=4, part=50), note(pitch=3, first=0, length=4, part=75),
            note(pitch=4, first=0, length=4, part=99), note(pitch=5, first=0, length=4),
        ]
        self.assertEqual([ends_at for number, begins_at, ends_at in played(*line)], [6, 150, 300, 350, 398, 400])

    def test_in_lowest_terms(self):
        # A tenth behind the pair's beginning comes to stand at 2/10 times 2/3.
        line = [begins(1), mark(0, 1), swing(2, 4, 2, 2, 1), note(first=2, length=1, part=10)]
        self.assertEqual(sounds_after(*line), [(0, 2, 0, 1, 2, 2, 15)])

    def test_where_a_pedal_comes_up_is_swung(self):
        line = [swing(0, 4, 4, 3, 1), note(first=0, length=1, part=50), pedal(0, 3)]
        self.assertEqual(played(*line), [(0, 0, 350)])

    def test_the_pedal_is_asked_at_the_place_as_it_is_written(self):
        # Tick 2 comes to stand at 3, where the pedal would be down.
        line = [swing(0, 4, 4, 3, 1), note(first=0, length=2), pedal(3, 4)]
        self.assertEqual(played(*line), [(0, 0, 300)])
        # Tick 1 comes to stand at 3/2, and the pedal's first tick with it.
        line = [swing(0, 4, 4, 3, 1), note(first=0, length=1), pedal(1, 3)]
        self.assertEqual(played(*line), [(0, 0, 350)])

    def test_ended_where_the_next_one_begins_swung(self):
        line = [swing(0, 4, 4, 3, 1), note(first=0, length=4), note(first=1, length=3)]
        self.assertEqual(played(*line), [(0, 0, 150), (1, 150, 400)])

    def test_ties_go_by_ticks_as_they_are_written(self):
        line = [swing(0, 4, 4, 3, 1), note(first=0, length=1, tied=1), note(first=1, length=2)]
        self.assertEqual(played(*line), [(0, 0, 350)])

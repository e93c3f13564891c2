"""Promise 4: note."""

import unittest

from line import AT_BEGINNING, FULL_OF_NOTES, GREATEST, asked, asked_last, laid_open, note

# Of each number: what is taken, and what is refused.
EDGES = (
    ("voice", (0, 1, 14, 15), (16, GREATEST)),
    ("pitch", (0, 1, 126, 127), (128, GREATEST)),
    ("first", (0, 1, 999519, 999520), (999521, 1000000, 1000001, GREATEST)),
    ("length", (1, 2, 999999, 1000000), (0, 1000001, GREATEST)),
    ("loudness", (1, 2, 126, 127), (0, 128, GREATEST)),
    ("part", (1, 2, 99, 100), (0, 101, GREATEST)),
    ("tied", (0, 1), ()),
)


class NoteTest(unittest.TestCase):
    def test_answers_its_number(self):
        self.assertEqual(asked(note(), note(voice=3), note(first=480, tied=1)), [[0], [1], [2]])

    def test_the_same_note_may_be_told_again(self):
        self.assertEqual(asked(note(), note(), note()), [[0], [1], [2]])

    def test_it_is_kept_as_it_is_told(self):
        kept = laid_open(note(15, 127, 999999, 1, 126, 99, 1), note(1, 2, 3, 4, 5, 6, 0))
        notes = [(15, 127, 999999, 1, 126, 99, 1), (1, 2, 3, 4, 5, 6, 0)]
        self.assertEqual(kept, dict(AT_BEGINNING, notes=notes))

    def test_edges_of_each_number(self):
        for name, taken, refused in EDGES:
            for number in taken:
                with self.subTest(name=name, number=number):
                    self.assertEqual(asked(note(**{name: number})), [[0]])
            for number in refused:
                with self.subTest(name=name, number=number):
                    self.assertEqual(asked(note(**{name: number})), [[-1]])

    def test_edges_of_its_end(self):
        for first, length, answer in (
            (0, 1000000, 0), (1, 1000000, -1), (999999, 1, 0), (999999, 2, -1), (1000000, 1, -1),
            (500000, 500000, 0), (500000, 500001, -1), (500001, 500000, -1),
        ):
            with self.subTest(first=first, length=length):
                self.assertEqual(asked(note(first=first, length=length)), [[answer]])

    def test_its_part_does_not_lengthen_what_it_may_be(self):
        self.assertEqual(asked(note(first=999999, length=2, part=1)), [[-1]])

    def test_the_200th_and_the_201st(self):
        self.assertEqual(asked(*FULL_OF_NOTES), [[k] for k in range(200)])
        self.assertEqual(asked_last(*FULL_OF_NOTES, note()), [-5])

    def test_of_two_refusals_the_first(self):
        for name, taken, refused in EDGES:
            for number in refused:
                with self.subTest(name=name, number=number):
                    self.assertEqual(asked_last(*FULL_OF_NOTES, note(**{name: number})), [-1])

    def test_after_a_refusal_all_is_as_it_was(self):
        for name, taken, refused in EDGES:
            for number in refused:
                with self.subTest(name=name, number=number):
                    wrong = note(**{name: number})
                    self.assertEqual(asked(note(), wrong, note()), [[0], [-1], [1]])
                    self.assertEqual(laid_open(note(tied=1), wrong), laid_open(note(tied=1)))

    def test_after_too_many_all_is_as_it_was(self):
        refused = FULL_OF_NOTES + [note(voice=3)]
        self.assertEqual(laid_open(*refused), laid_open(*FULL_OF_NOTES))
        self.assertEqual(asked_last(*refused, note()), [-5])

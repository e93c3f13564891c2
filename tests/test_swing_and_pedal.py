"""Promise 3: swing and pedal."""

import unittest

from line import (
    AT_BEGINNING, FULL_OF_PEDALS, FULL_OF_SWINGS, GREATEST,
    asked, asked_last, laid_open, pedal, swing,
)

# Each kind is to hold to what both share; a swing of pairs of 2 fits wherever the ticks are even in number.
KINDS = (("swing", swing, FULL_OF_SWINGS), ("pedal", pedal, FULL_OF_PEDALS))


class BothTest(unittest.TestCase):
    def test_answers_how_many_there_are(self):
        for name, made, full in KINDS:
            with self.subTest(kind=name):
                self.assertEqual(asked(made(0, 10), made(40, 60), made(20, 30)), [[1], [2], [3]])

    def test_first_below_at_and_above_last(self):
        for name, made, full in KINDS:
            for first, last, answer in (
                (0, 2, 1), (8, 10, 1), (10, 10, -1), (0, 0, -1), (12, 10, -1), (GREATEST, 2, -1),
            ):
                with self.subTest(kind=name, first=first, last=last):
                    self.assertEqual(asked(made(first, last)), [[answer]])

    def test_edges_of_last(self):
        for name, made, full in KINDS:
            for first, last, answer in (
                (0, 1000000, 1), (999998, 1000000, 1), (999999, 1000001, -1), (1, 1000001, -1),
                (1000000, 1000002, -1), (1, GREATEST, -1),
            ):
                with self.subTest(kind=name, first=first, last=last):
                    self.assertEqual(asked(made(first, last)), [[answer]])

    def test_a_tick_in_common(self):
        for name, made, full in KINDS:
            for first, last in (
                (100, 200), (120, 140), (100, 102), (198, 200), (0, 1000), (98, 102), (99, 101),
                (199, 201), (198, 300), (100, 300), (0, 200),
            ):
                with self.subTest(kind=name, first=first, last=last):
                    self.assertEqual(asked(made(100, 200), made(first, last)), [[1], [-3]])

    def test_a_tick_in_common_with_any_of_several(self):
        for name, made, full in KINDS:
            line = [made(40, 60), made(0, 20), made(80, 100)]
            for first, last, answer in (
                (58, 70, -3), (18, 30, -3), (70, 82, -3), (20, 42, -3), (20, 40, 4), (60, 80, 4), (100, 200, 4),
            ):
                with self.subTest(kind=name, first=first, last=last):
                    self.assertEqual(asked_last(*line, made(first, last)), [answer])

    def test_one_may_begin_where_another_ends(self):
        for name, made, full in KINDS:
            with self.subTest(kind=name):
                self.assertEqual(asked(made(100, 200), made(200, 202), made(98, 100)), [[1], [2], [3]])

    def test_the_kinds_have_nothing_to_do_with_one_another(self):
        self.assertEqual(asked(swing(0, 10), pedal(0, 10), pedal(20, 30), swing(20, 30)), [[1], [1], [2], [2]])
        self.assertEqual(asked_last(*FULL_OF_SWINGS, pedal(0, 10)), [1])
        self.assertEqual(asked_last(*FULL_OF_PEDALS, swing(0, 10)), [1])

    def test_the_30th_and_the_31st(self):
        for name, made, full in KINDS:
            with self.subTest(kind=name):
                self.assertEqual(asked_last(*full[:29]), [29])
                self.assertEqual(asked_last(*full), [30])
                self.assertEqual(asked_last(*full, made(300, 310)), [-5])

    def test_of_several_refusals_the_first(self):
        for name, made, full in KINDS:
            with self.subTest(kind=name):
                self.assertEqual(asked_last(*full, made(290, 310)), [-3])
                self.assertEqual(asked_last(*full, made(290, 290)), [-1])
                self.assertEqual(asked_last(*full, made(1, 1000001)), [-1])
                self.assertEqual(asked_last(*full, made(400, 400)), [-1])
                self.assertEqual(asked(made(0, 10), made(4, 4)), [[1], [-1]])
                self.assertEqual(asked(made(0, 10), made(1, 1000001)), [[1], [-1]])

    def test_after_a_refusal_all_is_as_it_was(self):
        for name, made, full in KINDS:
            for refused, answer in ((made(30, 30), -1), (made(2, 1000002), -1), (made(8, 20), -3)):
                with self.subTest(kind=name, refused=refused):
                    self.assertEqual(asked(made(0, 10), refused, made(10, 40)), [[1], [answer], [2]])
                    self.assertEqual(laid_open(made(0, 10), refused), laid_open(made(0, 10)))

    def test_after_too_many_all_is_as_it_was(self):
        for name, made, full in KINDS:
            with self.subTest(kind=name):
                refused = full + [made(300, 310)]
                self.assertEqual(laid_open(*refused), laid_open(*full))
                self.assertEqual(asked(*refused, made(300, 310), made(0, 10))[-2:], [[-5], [-3]])


class SwingTest(unittest.TestCase):
    def test_it_is_kept_as_it_is_told(self):
        kept = laid_open(swing(960, 1920, 480, 3, 2), swing(0, 960, 960, 20, 1))
        swings = [(960, 1920, 480, 3, 2), (0, 960, 960, 20, 1)]
        self.assertEqual(kept, dict(AT_BEGINNING, swings=swings))

    def test_the_pair(self):
        for first, last, pair, answer in (
            (0, 960, 0, -1), (0, 960, 1, -1), (0, 960, 2, 1), (0, 960, 3, -1), (0, 960, 4, 1),
            (0, 960, 15, -1), (0, 960, 480, 1), (0, 960, 960, 1), (0, 960, 958, -1), (0, 960, 962, -1),
            (0, 960, 1920, -1), (0, 960, GREATEST, -1), (0, 960, GREATEST - 1, -1), (0, 961, 2, -1),
            (0, 961, 961, -1), (0, 1, 2, -1), (0, 2, 2, 1), (0, 2, 4, -1), (0, 1000000, 1000000, 1),
            (100, 160, 40, -1), (100, 180, 40, 1), (30, 90, 20, 1), (7, 13, 6, 1), (7, 13, 4, -1),
        ):
            with self.subTest(first=first, last=last, pair=pair):
                self.assertEqual(asked(swing(first, last, pair)), [[answer]])

    def test_edges_of_a_and_b(self):
        for number, answer in ((0, -1), (1, 1), (20, 1), (21, -1), (GREATEST, -1)):
            with self.subTest(number=number):
                self.assertEqual(asked(swing(0, 960, 480, a=number)), [[answer]])
                self.assertEqual(asked(swing(0, 960, 480, b=number)), [[answer]])

    def test_a_wrong_pair_or_share_is_told_ahead_of_all_else(self):
        wrong = ({"pair": 0}, {"pair": 5}, {"pair": 4}, {"a": 0}, {"a": 21}, {"b": 0}, {"b": 21})
        for numbers in wrong:
            with self.subTest(numbers=numbers):
                self.assertEqual(asked(swing(0, 10), swing(0, 10, **numbers)), [[1], [-1]])
                self.assertEqual(asked_last(*FULL_OF_SWINGS, swing(0, 10, **numbers)), [-1])
                self.assertEqual(asked_last(*FULL_OF_SWINGS, swing(400, 410, **numbers)), [-1])

    def test_after_these_refusals_all_is_as_it_was(self):
        for refused in (
            swing(10, 20, 0), swing(10, 20, 5), swing(10, 20, 4), swing(10, 20, 2, 0), swing(10, 20, 2, 1, 21),
        ):
            with self.subTest(refused=refused):
                self.assertEqual(asked(swing(0, 10), refused, swing(10, 20)), [[1], [-1], [2]])
                self.assertEqual(laid_open(swing(0, 10), refused), laid_open(swing(0, 10)))


class PedalTest(unittest.TestCase):
    def test_it_is_kept_as_it_is_told(self):
        kept = laid_open(pedal(960, 1921), pedal(7, 8))
        self.assertEqual(kept, dict(AT_BEGINNING, pedals=[(960, 1921), (7, 8)]))

    def test_of_one_tick(self):
        self.assertEqual(asked(pedal(0, 1), pedal(1, 2), pedal(999999, 1000000), pedal(1, 2)), [[1], [2], [3], [-3]])

    def test_an_odd_number_of_ticks(self):
        self.assertEqual(asked(pedal(3, 10), pedal(9, 12), pedal(0, 4), pedal(10, 11)), [[1], [-3], [-3], [2]])

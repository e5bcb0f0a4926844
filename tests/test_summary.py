"""Calls 16 and 17: mean_weight and describe."""

import itertools
import math
import unittest
from fractions import Fraction

from asking import (
    NO_SHOTS, add_shot, ask, ask_last, clear_shots, create, describe, mean_weight, set_limits, set_shots,
    set_target, set_weight,
)

FULL = list(range(101, 125))


class MeanWeight(unittest.TestCase):
    def check(self, weights, expected):
        with self.subTest(weights=weights):
            self.assertEqual(ask_last(create(100, 2, 5), set_shots(weights), mean_weight()), expected)

    def test_no_shots(self):
        self.check([], NO_SHOTS)
        self.assertEqual(ask_last(create(100, 2, 5), mean_weight()), NO_SHOTS)
        self.assertEqual(ask_last(create(100, 2, 5), add_shot(4), clear_shots(), mean_weight()), NO_SHOTS)

    def test_one_shot(self):
        for weight in (1, -1, 2, 104, -104, 9999, -9999):
            self.check([weight], [0, weight, 1])

    def test_whole_mean(self):
        self.check([4, 8], [0, 6, 1])
        self.check([104, 103, 105], [0, 104, 1])

    def test_mean_that_is_not_whole(self):
        self.check([104, 103, 107], [0, 314, 3])
        self.check([1, 2], [0, 3, 2])

    def test_lowest_terms(self):
        self.check([1, 0, 0, 1], [0, 1, 2])
        self.check([3, 0, 0, 0, 0, 1], [0, 2, 3])
        self.check([10, 0, 0, 5], [0, 15, 4])
        self.check([9] + [0] * 11, [0, 3, 4])
        self.check([20] + [0] * 23, [0, 5, 6])
        self.check([48] + [0] * 23, [0, 2, 1])

    def test_mean_of_zero(self):
        self.check([0], [0, 0, 1])
        self.check([5, -5], [0, 0, 1])
        self.check([7, -3, -4], [0, 0, 1])
        self.check([9999, -9999] * 12, [0, 0, 1])

    def test_negative_mean(self):
        self.check([-4, -8], [0, -6, 1])
        self.check([-1, -2], [0, -3, 2])
        self.check([-1, 0, 0], [0, -1, 3])
        self.check([-1, 0, 0, -1], [0, -1, 2])
        self.check([-9] + [0] * 11, [0, -3, 4])
        self.check([5, -8], [0, -3, 2])

    def test_24_shots(self):
        self.check(FULL, [0, 225, 2])
        self.check([9999] * 24, [0, 9999, 1])
        self.check([-9999] * 24, [0, -9999, 1])
        self.check([-9999] * 23 + [-9998], [0, -239975, 24])

    def test_settings_have_no_say(self):
        for settings in ((0, 0, 0), (9999, 999, 999), (-9999, 0, 999)):
            self.assertEqual(ask_last(create(*settings), set_shots([1, 2, 4]), mean_weight()), [0, 7, 3])

    def test_current_weights_hold(self):
        self.assertEqual(
            ask(create(0, 0, 0), add_shot(1), mean_weight(), add_shot(4), mean_weight(), set_weight(0, -5),
                mean_weight())[2::2],
            [[0, 1, 1], [0, 5, 2], [0, -1, 2]],
        )

    def test_against_exact_fractions(self):
        for count in (1, 2, 3, 4, 6):
            for weights in itertools.product((-7, -2, 0, 4), repeat=count):
                answered = ask_last(create(0, 0, 0), set_shots(weights), mean_weight())
                mean = Fraction(sum(weights), count)
                self.assertEqual(answered, [0, mean.numerator, mean.denominator])
                self.assertGreaterEqual(answered[2], 1)
                self.assertEqual(math.gcd(answered[1], answered[2]), 1)


class Describe(unittest.TestCase):
    def test_after_create(self):
        self.assertEqual(ask_last(create(100, 2, 5), describe()), [0, 100, 2, 5])
        self.assertEqual(ask_last(create(-9999, 999, 0), describe()), [0, -9999, 999, 0])

    def test_one_shot_and_24_shots(self):
        self.assertEqual(ask_last(create(100, 2, 5), add_shot(-7), describe()), [1, 100, 2, 5, -7])
        self.assertEqual(ask_last(create(100, 2, 5), set_shots(FULL), describe()), [24, 100, 2, 5] + FULL)

    def test_after_each_call_that_changes_an_instance(self):
        steps = (
            (create(100, 2, 5), [0, 100, 2, 5]),
            (add_shot(104), [1, 100, 2, 5, 104]),
            (add_shot(-3), [2, 100, 2, 5, 104, -3]),
            (set_weight(0, 9), [2, 100, 2, 5, 9, -3]),
            (set_weight(1, 8), [2, 100, 2, 5, 9, 8]),
            (set_target(-40), [2, -40, 2, 5, 9, 8]),
            (set_limits(6, 7), [2, -40, 6, 7, 9, 8]),
            (set_shots([3, 1, 2]), [3, -40, 6, 7, 3, 1, 2]),
            (add_shot(0), [4, -40, 6, 7, 3, 1, 2, 0]),
            (clear_shots(), [0, -40, 6, 7]),
            (add_shot(5), [1, -40, 6, 7, 5]),
            (set_shots([]), [0, -40, 6, 7]),
            (set_shots(FULL), [24, -40, 6, 7] + FULL),
            (create(1, 2, 3), [0, 1, 2, 3]),
        )
        calls = []
        for call, expected in steps:
            calls += [call, describe()]
            with self.subTest(call=call):
                self.assertEqual(ask_last(*calls), expected)

    def test_after_refusals(self):
        expected = [2, 100, 2, 5, 104, 90]
        refused = (
            create(10000, 1, 1), create(1, -1, 1), create(1, 1, 1000), add_shot(10000), set_shots([1] * 25),
            set_shots([1, -10000]), set_weight(2, 1), set_weight(-1, 1), set_weight(0, 10000), set_target(-10000),
            set_limits(1, -1), set_limits(1000, 1),
        )
        calls = [create(100, 2, 5), set_shots([104, 90])]
        for call in refused:
            with self.subTest(call=call):
                answered = ask(*calls, call, describe())
                self.assertLess(answered[2][0], 0)
                self.assertEqual(answered[3], expected)

    def test_after_a_25th_shot(self):
        calls = [create(100, 2, 5), set_shots(FULL), add_shot(1)]
        self.assertEqual(ask_last(*calls, describe()), [24, 100, 2, 5] + FULL)


if __name__ == "__main__":
    unittest.main()

"""Calls 13 and 14: add_shot_if and smallest_alarming_weight."""

import itertools
import unittest

from asking import (
    NO_WEIGHTS, OUT_OF_RANGE, TOO_MANY_SHOTS, add_shot, add_shot_if, ask, ask_last, create, describe, held,
    set_limits, set_shots, set_target, smallest_alarming_weight, upper_sums,
)

FULL = list(range(101, 125))


class AddShotIf(unittest.TestCase):
    def test_answers_alarm_and_both_sums(self):
        calls = [create(100, 2, 5), set_shots([104, 103, 107])]
        self.assertEqual(
            ask(*calls, add_shot_if(90), add_shot_if(100), add_shot_if(95), add_shot_if(94))[2:],
            [[2, 0, 8], [1, 6, 0], [0, 1, 3], [0, 0, 4]],
        )

    def test_no_shots(self):
        weights = (100, 107, 108, 93, 92)
        self.assertEqual(
            ask(create(100, 2, 5), *[add_shot_if(weight) for weight in weights])[1:],
            [[0, 0, 0], [0, 5, 0], [1, 6, 0], [0, 0, 5], [2, 0, 6]],
        )

    def test_one_shot(self):
        calls = [create(100, 2, 5), add_shot(104)]
        self.assertEqual(ask(*calls, add_shot_if(105), add_shot_if(106))[2:], [[0, 5, 0], [1, 6, 0]])

    def test_both_alarms(self):
        self.assertEqual(ask_last(create(0, 0, 0), add_shot(100), add_shot_if(-10)), [3, 90, 10])
        self.assertEqual(ask_last(create(0, 0, 5), add_shot(-100), add_shot_if(10)), [3, 10, 90])

    def test_answers_what_add_shot_answers(self):
        for count in (0, 1, 2, 5, 23):
            weights = [(7 * n * n) % 31 - 15 for n in range(count)]
            for weight in (-9999, -40, -3, 0, 1, 20, 9999):
                with self.subTest(count=count, weight=weight):
                    answered = ask(create(1, 2, 9), set_shots(weights), add_shot_if(weight), add_shot(weight))
                    self.assertEqual(answered[2], answered[3])

    def test_with_24_shots(self):
        calls = [create(100, 0, 999), set_shots(FULL)]
        total = sum(n - 100 for n in FULL)
        self.assertEqual(
            ask(*calls, add_shot_if(150), add_shot(150), add_shot_if(60), add_shot_if(-9999), describe())[2:],
            [[0, total + 50, 0], TOO_MANY_SHOTS, [0, total - 40, 40], [2, 0, 10099], [24, 100, 0, 999] + FULL],
        )

    def test_edges_of_the_range(self):
        for count in (0, 1, 24):
            with self.subTest(count=count):
                answered = ask(create(0, 0, 999), set_shots([0] * count), add_shot_if(9999), add_shot_if(-9999))
                self.assertEqual(answered[2:], [[1, 9999, 0], [2, 0, 9999]])

    def test_weight_out_of_range(self):
        for count in (0, 1, 24):
            calls = [create(0, 0, 0), set_shots(FULL[:count])]
            for weight in NO_WEIGHTS:
                with self.subTest(count=count, weight=weight):
                    self.assertEqual(ask_last(*calls, add_shot_if(weight)), OUT_OF_RANGE)

    def test_changes_nothing(self):
        for count in (0, 1, 3, 24):
            for weight in (0, 150, -9999, 9999, 10000):
                with self.subTest(count=count, weight=weight):
                    calls = [create(100, 2, 5), set_shots(FULL[:count])]
                    again = calls + [add_shot_if(weight)] * 3
                    self.assertEqual(ask_last(*again, describe()), [count, 100, 2, 5] + FULL[:count])
                    self.assertEqual(held(again, count), held(calls, count))

    def test_makes_no_room_and_takes_none(self):
        answered = ask(create(0, 0, 999), set_shots([1] * 23), add_shot_if(5), add_shot(1), add_shot_if(5), add_shot(1))
        self.assertEqual(answered[2:], [[0, 28, 0], [0, 24, 0], [0, 29, 0], TOO_MANY_SHOTS])


class SmallestAlarmingWeight(unittest.TestCase):
    def check(self, calls, expected):
        with self.subTest(calls=calls):
            self.assertEqual(ask_last(*calls, smallest_alarming_weight()), [0, expected])

    def test_no_shots(self):
        self.check([create(100, 2, 5)], 108)
        self.check([create(0, 0, 0)], 1)
        self.check([create(-50, 3, 4)], -42)

    def test_one_shot(self):
        self.check([create(100, 2, 5), add_shot(104)], 106)
        self.check([create(100, 2, 5), add_shot(101)], 108)

    def test_upper_sum_of_zero(self):
        self.check([create(100, 2, 5), set_shots([107, 95])], 108)
        self.check([create(100, 2, 5), set_shots([107, 0])], 108)

    def test_upper_sum_at_the_threshold(self):
        self.check([create(100, 2, 5), set_shots([107])], 103)

    def test_upper_sum_above_the_threshold(self):
        self.check([create(100, 2, 5), set_shots([104, 103, 107])], 100)
        self.check([create(0, 0, 3), set_shots([50])], -46)

    def test_24_shots(self):
        self.check([create(0, 1, 99), set_shots([3] * 24)], 53)

    def test_lower_sum_has_no_say(self):
        self.check([create(0, 0, 5), set_shots([-9000, 2])], 4)

    def test_answer_above_the_range_of_weights(self):
        self.check([create(9999, 999, 999)], 11998)
        self.check([create(9999, 0, 0)], 10000)
        self.check([create(9998, 0, 0)], 9999)

    def test_answer_below_the_range_of_weights(self):
        self.check([create(-9999, 0, 0), set_shots([-9998])], -9999)
        self.check([create(-9999, 0, 0), set_shots([-9997])], -10000)
        self.check([create(-9999, 0, 0), set_shots([9999] * 24)], -9999 + 1 - 24 * 19998)
        self.check([create(0, 0, 0), set_shots([9999, 9999])], -19997)

    def test_current_settings_hold(self):
        calls = [create(100, 2, 5), set_shots([104, 105])]
        self.check(calls + [set_limits(0, 5)], 97)
        self.check(calls + [set_limits(2, 20)], 118)
        self.check(calls + [set_target(103)], 111)


class PointFour(unittest.TestCase):
    def test_this_weight_raises_the_sum_above_the_threshold_and_one_less_does_not(self):
        for weights in itertools.product((-6, -1, 0, 2, 7), repeat=3):
            for target, allowance, threshold in ((0, 0, 0), (0, 0, 5), (-3, 1, 4), (2, 3, 0)):
                calls = [create(target, allowance, threshold), set_shots(weights)]
                weight = ask_last(*calls, smallest_alarming_weight())[1]
                above = (weight, weight + 1, weight + 100)
                not_above = (weight - 1, weight - 2, weight - 100)
                answered = ask(*calls, *[add_shot_if(x) for x in above + not_above])[2:]
                with self.subTest(calls=calls):
                    self.assertEqual([answer[0] % 2 for answer in answered], [1, 1, 1, 0, 0, 0])
                    self.assertEqual(answered[0][1], threshold + 1)
                    self.assertLessEqual(answered[3][1], threshold)

    def test_the_same_of_add_shot(self):
        for weights in ([], [104], [104, 103, 107], [90, 108]):
            calls = [create(100, 2, 5), set_shots(weights)]
            weight = ask_last(*calls, smallest_alarming_weight())[1]
            with self.subTest(weights=weights):
                self.assertEqual(ask_last(*calls, add_shot(weight), upper_sums())[-1], 6)
                self.assertLessEqual(ask_last(*calls, add_shot(weight - 1), upper_sums())[-1], 5)

    def test_outside_the_range_no_weight_or_each_weight_raises_it(self):
        calls = [create(9999, 999, 999)]
        self.assertEqual(ask_last(*calls, add_shot_if(9999)), [0, 0, 0])
        calls = [create(-9999, 0, 0), set_shots([9999, 9999])]
        self.assertEqual(ask_last(*calls, add_shot_if(-9999))[0], 1)


if __name__ == "__main__":
    unittest.main()

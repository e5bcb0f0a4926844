"""Calls 9 and 10: first_alarm and alarms."""

import itertools
import unittest

from asking import (
    NO_ALARM, add_shot, alarms, ask, ask_last, clear_shots, create, first_alarm, set_limits, set_shots, set_target,
    set_weight,
)


class Alarms(unittest.TestCase):
    def check(self, calls, first, shots):
        """Both calls, since what one of them tells must fit the other."""
        with self.subTest(calls=calls):
            self.assertEqual(ask(*calls, first_alarm(), alarms())[-2:], [first, [len(shots)] + shots])

    def test_no_shots(self):
        self.check([create(100, 2, 5)], NO_ALARM, [])
        self.check([create(0, 0, 0)], NO_ALARM, [])
        self.check([create(0, 0, 0), set_shots([9, -9]), clear_shots()], NO_ALARM, [])

    def test_one_shot(self):
        start = create(100, 2, 5)
        self.check([start, add_shot(100)], NO_ALARM, [])
        self.check([start, add_shot(108)], [0, 1], [0])
        self.check([start, add_shot(92)], [0, 2], [0])
        self.check([start, add_shot(9999)], [0, 1], [0])
        self.check([start, add_shot(-9999)], [0, 2], [0])

    def test_just_at_the_threshold_is_no_alarm(self):
        start = create(100, 2, 5)
        self.check([start, set_shots([107])], NO_ALARM, [])
        self.check([start, set_shots([93])], NO_ALARM, [])
        self.check([start, set_shots([104, 105])], NO_ALARM, [])
        self.check([start, set_shots([104, 106])], [1, 1], [1])
        self.check([start, set_shots([96, 95])], NO_ALARM, [])
        self.check([start, set_shots([96, 94])], [1, 2], [1])
        self.check([create(0, 0, 999), set_shots([999, -1, 1, 1])], [3, 1], [3])
        self.check([create(0, 0, 999), set_shots([-999, 1, -1, -1])], [3, 2], [3])

    def test_threshold_and_allowance_of_zero(self):
        start = create(50, 0, 0)
        self.check([start, set_shots([50, 50, 50])], NO_ALARM, [])
        self.check([start, set_shots([50, 51, 50])], [1, 1], [1, 2])
        self.check([start, set_shots([50, 49, 50])], [1, 2], [1, 2])

    def test_code_three_counts_once(self):
        start = create(0, 0, 0)
        self.assertEqual(ask(start, add_shot(100), add_shot(-10))[1:], [[1, 100, 0], [3, 90, 10]])
        self.check([start, set_shots([100, -10])], [0, 1], [0, 1])
        self.check([start, set_shots([-100, 10])], [0, 2], [0, 1])
        self.check([start, set_shots([0, 0, 9, -3, -3, 0])], [2, 1], [2, 3, 4, 5])

    def test_code_three_above_a_threshold(self):
        self.check([create(0, 0, 5), set_shots([5, 95, -10, -90, 0])], [1, 1], [1, 2, 3, 4])
        self.check([create(0, 0, 5), set_shots([100, -5, -1, -94, 90])], [0, 1], [0, 1, 2, 3, 4])

    def test_code_three_at_the_last_shot(self):
        self.assertEqual(ask_last(create(0, 0, 5), *[add_shot(x) for x in (0, 100, -3, -7)]), [3, 90, 10])
        self.check([create(0, 0, 5), set_shots([0, 100, -3, -7])], [1, 1], [1, 2, 3])

    def test_first_and_last_of_24_shots(self):
        start = create(0, 1, 5)
        quiet = [1] * 24
        self.check([start, set_shots(quiet)], NO_ALARM, [])
        self.check([start, set_shots([7, -5] + quiet[2:])], [0, 1], [0])
        self.check([start, set_shots([-7] + quiet[1:])], [0, 2], [0])
        self.check([start, set_shots(quiet[1:] + [7])], [23, 1], [23])
        self.check([start, set_shots(quiet[1:] + [-7])], [23, 2], [23])
        self.check([start, set_shots([7] + quiet[1:])], [0, 1], list(range(24)))

    def test_each_single_shot_of_24(self):
        for shot in range(23):
            weights = [0] * 24
            weights[shot:shot + 2] = [7, -6]
            self.check([create(0, 1, 5), set_shots(weights)], [shot, 1], [shot])

    def test_several_alarms_with_quiet_shots_between(self):
        calls = [create(100, 2, 5), set_shots([108, 90, 101, 112, 100, 70, 125])]
        self.check(calls, [0, 1], [0, 1, 3, 4, 5, 6])
        calls = [create(0, 1, 3), set_shots([0, 6, -8, 0, -6, 9, 1])]
        self.check(calls, [1, 1], [1, 2, 3, 4, 5, 6])
        calls = [create(0, 1, 3), set_shots([0, 5, -2, 0, -4, 6, 0])]
        self.check(calls, [1, 1], [1, 5, 6])
        calls = [create(0, 1, 3), set_shots([0, -5, 2, 0, 4, -6, 0])]
        self.check(calls, [1, 2], [1, 5, 6])

    def test_negative_target(self):
        self.check([create(-50, 3, 4), set_shots([-50, -42, -57])], [1, 1], [1])
        self.check([create(-50, 3, 4), set_shots([-50, -58, -43])], [1, 2], [1])

    def test_current_settings_and_weights_hold(self):
        calls = [create(100, 2, 5), set_shots([104, 108])]
        self.check(calls, [1, 1], [1])
        self.check(calls + [set_limits(2, 8)], NO_ALARM, [])
        self.check(calls + [set_limits(2, 7)], [1, 1], [1])
        self.check(calls + [set_limits(0, 3)], [0, 1], [0, 1])
        self.check(calls + [set_target(112)], [0, 2], [0, 1])
        self.check(calls + [set_weight(1, 100)], NO_ALARM, [])
        self.check(calls + [set_weight(0, 90)], [0, 2], [0, 1])

    def test_first_alarm_fits_alarms_and_what_add_shot_told(self):
        for weights in itertools.product((-6, -1, 0, 2, 7), repeat=4):
            for allowance, threshold in ((0, 0), (0, 3), (1, 0), (1, 4)):
                calls = [create(0, allowance, threshold), *[add_shot(x) for x in weights]]
                codes = [answer[0] for answer in ask(*calls)[1:]]
                shots = [n for n in range(4) if codes[n] != 0]
                first = [shots[0], codes[shots[0]]] if shots else NO_ALARM
                self.check(calls, first, shots)


if __name__ == "__main__":
    unittest.main()

"""Calls 11, 12 and 15: onset, worst_runs and longest_runs."""

import itertools
import unittest

from asking import (
    NO_SUCH_SHOT, add_shot, ask, ask_last, clear_shots, create, longest_runs, no_shots_behind, onset, set_limits,
    set_shots, set_target, set_weight, worst_runs,
)


def each_shot(call, count):
    """The call at each of so many shots."""
    return [call(n) for n in range(count)]


class ShotIndex(unittest.TestCase):
    """What onset and worst_runs have in common: which shots there are."""

    def test_shot_that_is_not_there(self):
        for call in (onset, worst_runs):
            for count in (0, 1, 2, 24):
                for n in no_shots_behind(count):
                    with self.subTest(call=call(n), count=count):
                        self.assertEqual(ask_last(create(0, 0, 0), set_shots([5] * count), call(n)), NO_SUCH_SHOT)

    def test_first_and_last_shot(self):
        for count in (1, 2, 24):
            calls = [create(0, 0, 0), set_shots([5] * count)]
            last = count - 1
            with self.subTest(count=count):
                self.assertEqual(ask(*calls, onset(0), onset(last))[2:], [[0, 1], [0, count]])
                self.assertEqual(
                    ask(*calls, worst_runs(0), worst_runs(last))[2:],
                    [[0, 5, 0, 0, 1], [0, 5 * count, 0, 0, count]],
                )

    def test_shots_come_and_go(self):
        for call in (onset, worst_runs):
            answered = ask(
                create(0, 0, 0), call(0), add_shot(5), call(0), call(1), set_shots([5, 5]), call(1), clear_shots(),
                call(0),
            )
            with self.subTest(call=call(0)):
                self.assertEqual([answered[k] for k in (1, 4, 8)], [NO_SUCH_SHOT] * 3)
                self.assertEqual([answered[k][0] for k in (3, 6)], [0, 0])


class Onset(unittest.TestCase):
    def check(self, settings, weights, expected):
        calls = [create(*settings), set_shots(weights)]
        self.assertEqual(ask(*calls, *each_shot(onset, len(weights)))[2:], expected)

    def test_one_shot(self):
        self.check((100, 2, 5), [104], [[0, 1]])
        self.check((100, 2, 5), [96], [[1, 0]])
        self.check((100, 2, 5), [100], [[1, 1]])
        self.check((100, 2, 5), [102], [[1, 1]])

    def test_no_sum_of_zero_up_to_the_shot(self):
        self.check((100, 2, 5), [104, 103, 107], [[0, 1], [0, 2], [0, 3]])
        self.check((100, 2, 5), [96, 97, 93], [[1, 0], [2, 0], [3, 0]])

    def test_both_sums_without_a_zero_from_some_shot_on(self):
        self.check((0, 0, 5), [100, -10, -10, 5], [[0, 1], [0, 1], [0, 1], [0, 1]])
        self.check((0, 0, 5), [-100, 10, 10, -5], [[1, 0], [1, 0], [1, 0], [1, 0]])

    def test_all_sums_are_zero(self):
        self.check((100, 2, 5), [100] * 24, [[n + 1, n + 1] for n in range(24)])

    def test_a_zero_in_the_midst(self):
        # The upper sums are 2, 0, 3, 1, 0, 0, 4, 5.
        self.check(
            (0, 1, 5),
            [3, -1, 4, -1, -1, 1, 5, 2],
            [[0, 1], [2, 2], [2, 3], [2, 4], [5, 5], [6, 6], [6, 7], [6, 8]],
        )
        # The lower sums are 2, 0, 3, 1, 0, 0, 4, 5.
        self.check(
            (0, 1, 5),
            [-3, 1, -4, 1, 1, -1, -5, -2],
            [[1, 0], [2, 2], [3, 2], [4, 2], [5, 5], [6, 6], [7, 6], [8, 6]],
        )

    def test_a_sum_that_falls_to_just_zero(self):
        self.check((0, 0, 5), [3, -3, 4], [[0, 1], [2, 1], [2, 3]])
        self.check((0, 0, 5), [3, -2, 4], [[0, 1], [0, 1], [0, 3]])

    def test_later_shots_have_no_say(self):
        calls = [create(0, 0, 5), set_shots([3, -1, -9, 4])]
        self.assertEqual(ask_last(*calls, onset(1)), [0, 1])
        self.assertEqual(ask_last(*calls, onset(3)), [3, 1])

    def test_24_shots(self):
        weights = [9] * 10 + [-9999] + [9] * 13
        calls = [create(0, 0, 0), set_shots(weights)]
        self.assertEqual(ask(*calls, onset(9), onset(10), onset(23))[2:], [[0, 10], [11, 10], [11, 10]])

    def test_current_settings_and_weights_hold(self):
        calls = [create(100, 2, 5), set_shots([104, 101, 106])]
        self.assertEqual(ask_last(*calls, onset(2)), [0, 3])
        self.assertEqual(ask_last(*calls, set_limits(3, 5), onset(2)), [2, 3])
        self.assertEqual(ask_last(*calls, set_target(110), onset(2)), [3, 0])
        self.assertEqual(ask_last(*calls, set_weight(1, 80), onset(2)), [2, 1])

    def test_threshold_has_no_say(self):
        calls = [create(100, 2, 5), set_shots([104, 101, 106])]
        self.assertEqual(ask_last(*calls, set_limits(2, 0), onset(2)), [0, 3])
        self.assertEqual(ask_last(*calls, set_limits(2, 999), onset(2)), [0, 3])


class WorstRuns(unittest.TestCase):
    def check(self, settings, weights, expected):
        calls = [create(*settings), set_shots(weights)]
        self.assertEqual(ask(*calls, *each_shot(worst_runs, len(weights)))[2:], expected)

    def test_one_shot(self):
        self.check((100, 2, 5), [104], [[0, 2, 0, 0, 1]])
        self.check((100, 2, 5), [96], [[0, 0, 1, 2, 0]])
        self.check((100, 2, 5), [100], [[0, 0, 1, 0, 1]])
        self.check((100, 2, 5), [102], [[0, 0, 1, 0, 1]])

    def test_runs_from_the_first_shot_on(self):
        self.check((100, 2, 5), [104, 103, 107], [[0, 2, 0, 0, 1], [0, 3, 0, 0, 2], [0, 8, 0, 0, 3]])
        self.check((100, 2, 5), [96, 97, 93], [[0, 0, 1, 2, 0], [0, 0, 2, 3, 0], [0, 0, 3, 8, 0]])

    def test_no_positive_value(self):
        self.check((100, 0, 5), [100] * 24, [[0, 0, n + 1, 0, n + 1] for n in range(24)])
        self.check((100, 9, 5), [95, 104, 100], [[0, 0, n + 1, 0, n + 1] for n in range(3)])

    def test_a_value_of_zero_is_not_positive(self):
        self.check((0, 0, 5), [3, -3], [[0, 3, 0, 0, 1], [0, 0, 2, 3, 1]])
        self.check((0, 0, 5), [-3, 3], [[0, 0, 1, 3, 0], [0, 3, 1, 0, 2]])

    def test_a_run_that_starts_in_the_midst(self):
        self.check((0, 0, 5), [2, -5, 4, 1], [
            [0, 2, 0, 0, 1], [0, 0, 2, 5, 1], [0, 4, 2, 1, 1], [0, 5, 2, 0, 4],
        ])

    def test_the_smallest_of_several_starts(self):
        # From 0, 1 and 3 on, the excess up to the last shot adds up to 5.
        calls = [create(0, 0, 5), set_shots([0, 3, -3, 5])]
        self.assertEqual(ask_last(*calls, worst_runs(3)), [0, 5, 0, 0, 4])
        calls = [create(0, 0, 5), set_shots([0, -3, 3, -5])]
        self.assertEqual(ask_last(*calls, worst_runs(3)), [0, 0, 4, 5, 0])
        # From 2, 4 and 6 on; those from 0 on add up to less.
        calls = [create(0, 1, 5), set_shots([5, -9, 3, -1, 4, -2, 6, 3])]
        self.assertEqual(ask_last(*calls, worst_runs(7)), [0, 7, 2, 0, 8])
        calls = [create(0, 1, 5), set_shots([-5, 9, -3, 1, -4, 2, -6, -3])]
        self.assertEqual(ask_last(*calls, worst_runs(7)), [0, 0, 8, 7, 2])

    def test_shots_of_no_deviation_ahead_of_the_run(self):
        calls = [create(0, 0, 5), set_shots([0] * 23 + [1])]
        self.assertEqual(ask_last(*calls, worst_runs(23)), [0, 1, 0, 0, 24])
        calls = [create(0, 0, 5), set_shots([0] * 23 + [-1])]
        self.assertEqual(ask_last(*calls, worst_runs(23)), [0, 0, 24, 1, 0])

    def test_both_runs_at_one_shot(self):
        calls = [create(0, 0, 5), set_shots([100, -10])]
        self.assertEqual(ask_last(*calls, worst_runs(1)), [0, 90, 0, 10, 1])

    def test_later_shots_have_no_say(self):
        calls = [create(0, 0, 5), set_shots([3, 2, 50, -70])]
        self.assertEqual(ask_last(*calls, worst_runs(1)), [0, 5, 0, 0, 2])

    def test_largest_values(self):
        calls = [create(-9999, 0, 0), set_shots([9999] * 24)]
        self.assertEqual(ask_last(*calls, worst_runs(23)), [0, 24 * 19998, 0, 0, 24])
        calls = [create(9999, 0, 0), set_shots([-9999] * 24)]
        self.assertEqual(ask_last(*calls, worst_runs(23)), [0, 0, 24, 24 * 19998, 0])

    def test_current_settings_and_weights_hold(self):
        calls = [create(100, 2, 5), set_shots([104, 101, 106])]
        self.assertEqual(ask_last(*calls, worst_runs(2)), [0, 5, 0, 0, 3])
        self.assertEqual(ask_last(*calls, set_limits(4, 5), worst_runs(2)), [0, 2, 2, 0, 3])
        self.assertEqual(ask_last(*calls, set_target(110), worst_runs(2)), [0, 0, 3, 13, 0])
        self.assertEqual(ask_last(*calls, set_weight(1, 80), worst_runs(2)), [0, 4, 2, 10, 1])

    def test_all_short_lists_against_each_run(self):
        for target, allowance in itertools.product((-1, 0, 2), (0, 1, 3)):
            for weights in itertools.product((-4, -1, 0, 1, 3), repeat=4):
                above = [x - target - allowance for x in weights]
                below = [target - x - allowance for x in weights]
                expected = []
                for n in range(4):
                    expected.append([0])
                    for deviations in (above, below):
                        values = [sum(deviations[a:n + 1]) for a in range(n + 1)]
                        best = max(values)
                        expected[-1] += [best, values.index(best)] if best > 0 else [0, n + 1]
                self.check((target, allowance, 2), weights, expected)


class LongestRuns(unittest.TestCase):
    def check(self, weights, expected, target=0):
        with self.subTest(weights=weights, target=target):
            self.assertEqual(ask_last(create(target, 0, 0), set_shots(weights), longest_runs()), expected)

    def test_no_shots(self):
        self.check([], [0, 0])

    def test_one_shot(self):
        self.check([1], [1, 0])
        self.check([-1], [0, 1])
        self.check([0], [0, 0])
        self.check([9999], [1, 0], target=9998)
        self.check([-9999], [0, 1], target=-9998)

    def test_24_shots(self):
        self.check([5] * 24, [24, 0])
        self.check([-5] * 24, [0, 24])
        self.check([0] * 24, [0, 0])
        self.check([1, -1] * 12, [1, 1])
        self.check([1] * 11 + [-1] * 13, [11, 13])

    def test_the_target_breaks_both_runs(self):
        self.check([1, 1, 0, 1], [2, 0])
        self.check([-1, 0, -1, -1], [0, 2])
        self.check([1, 0, 1, 0, -1, 0, -1], [1, 1])

    def test_the_other_side_breaks_a_run(self):
        self.check([1, 1, -1, 1], [2, 1])
        self.check([-1, 1, -1, -1], [1, 2])

    def test_longest_run_at_the_front(self):
        self.check([1, 2, 3, 0, 1, 1, 0], [3, 0])
        self.check([-1, -2, -3, 0, -1, -1, 0], [0, 3])

    def test_longest_run_in_the_midst(self):
        self.check([1, 0, 1, 2, 3, 0, 1, 1], [3, 0])
        self.check([-1, 0, -1, -2, -3, 0, -1, -1], [0, 3])

    def test_longest_run_at_the_end(self):
        self.check([1, 0, 1, 1, 0, 1, 2, 3], [3, 0])
        self.check([-1, 0, -1, -1, 0, -1, -2, -3], [0, 3])

    def test_target_on_both_sides(self):
        self.check([101, 102, 99, 100, 98, 97, 96], [2, 3], target=100)
        self.check([-99, -98, -101, -100, -102, -103, -104], [2, 3], target=-100)

    def test_limits_have_no_say(self):
        weights = set_shots([1, 2, -1, -1, -1])
        for allowance, threshold in ((0, 0), (1, 0), (999, 0), (0, 999), (999, 999)):
            with self.subTest(allowance=allowance, threshold=threshold):
                self.assertEqual(ask_last(create(0, allowance, threshold), weights, longest_runs()), [2, 3])

    def test_current_target_and_weights_hold(self):
        calls = [create(0, 0, 0), set_shots([1, 2, 3])]
        self.assertEqual(
            ask(*calls, longest_runs(), set_target(2), longest_runs(), set_weight(1, 0), longest_runs())[2:],
            [[3, 0], [0, 0], [1, 1], [0, 2], [1, 2]],
        )


if __name__ == "__main__":
    unittest.main()

"""Calls 0, 5 and 6: create, set_target, set_limits."""

import unittest

from asking import (
    NO_LIMITS, NO_WEIGHTS, OUT_OF_RANGE, add_shot, ask, ask_last, create, held, lower_sums, set_limits,
    set_shots, set_target, set_weight, upper_sums,
)


class Create(unittest.TestCase):
    def test_answers_zero_and_holds_no_shots(self):
        self.assertEqual(ask(create(100, 2, 5)), [[0]])
        self.assertEqual(held([create(100, 2, 5)], 0), [[0], [0], [0], [0, 2, 5], [0, 100]])

    def test_edges_of_the_ranges(self):
        for target in (-9999, 0, 9999):
            for allowance in (0, 999):
                for threshold in (0, 999):
                    with self.subTest(target=target, allowance=allowance, threshold=threshold):
                        calls = [create(target, allowance, threshold)]
                        self.assertEqual(ask(*calls), [[0]])
                        self.assertEqual(held(calls, 0)[3:], [[0, allowance, threshold], [0, target]])

    def test_target_out_of_range(self):
        for target in NO_WEIGHTS:
            with self.subTest(target=target):
                self.assertEqual(ask(create(target, 2, 5)), [OUT_OF_RANGE])

    def test_allowance_out_of_range(self):
        for allowance in NO_LIMITS:
            with self.subTest(allowance=allowance):
                self.assertEqual(ask(create(100, allowance, 5)), [OUT_OF_RANGE])

    def test_threshold_out_of_range(self):
        for threshold in NO_LIMITS:
            with self.subTest(threshold=threshold):
                self.assertEqual(ask(create(100, 2, threshold)), [OUT_OF_RANGE])

    def test_replaces_an_instance(self):
        calls = [create(100, 2, 5), set_shots([1, 2, 3]), create(7, 8, 9)]
        self.assertEqual(ask_last(*calls), [0])
        self.assertEqual(held(calls, 0), [[0], [0], [0], [0, 8, 9], [0, 7]])

    def test_replaces_an_instance_by_one_alike(self):
        calls = [create(100, 2, 5), set_shots([1, 2, 3]), create(100, 2, 5)]
        self.assertEqual(held(calls, 0), [[0], [0], [0], [0, 2, 5], [0, 100]])

    def test_refused_keeps_the_instance(self):
        calls = [create(100, 2, 5), set_shots([104, 90])]
        refused = [create(target, 1, 1) for target in NO_WEIGHTS]
        refused += [create(1, allowance, 1) for allowance in NO_LIMITS]
        refused += [create(1, 1, threshold) for threshold in NO_LIMITS]
        for call in refused:
            with self.subTest(call=call):
                self.assertEqual(ask_last(*calls, call), OUT_OF_RANGE)
                self.assertEqual(
                    held(calls + [call], 2),
                    [[2, 2, 0], [2, 0, 8], [0, 104], [0, 90], [2], [0, 2, 5], [0, 100]],
                )


class SetTarget(unittest.TestCase):
    def test_answers_the_old_target(self):
        self.assertEqual(ask(create(100, 2, 5), set_target(-7), set_target(30))[1:], [[0, 100], [0, -7]])

    def test_all_sums_are_reckoned_anew(self):
        calls = [create(0, 1, 9), set_shots([3, 3, -5])]
        self.assertEqual(
            ask(*calls, upper_sums(), lower_sums(), set_target(3), upper_sums(), lower_sums())[2:],
            [[3, 2, 4, 0], [3, 0, 0, 4], [0, 0], [3, 0, 0, 0], [3, 0, 0, 7]],
        )

    def test_next_shot_uses_all_weights_with_the_new_target(self):
        self.assertEqual(
            ask_last(create(0, 0, 9), set_shots([10, 10]), set_target(8), add_shot(9)),
            [0, 5, 0],
        )

    def test_keeps_all_else(self):
        calls = [create(100, 2, 5), set_shots([104, 90]), set_target(97)]
        self.assertEqual(held(calls, 2)[2:], [[0, 104], [0, 90], [2], [0, 2, 5], [0, 97]])

    def test_edges_of_the_range(self):
        self.assertEqual(
            ask(create(1, 2, 5), set_target(9999), set_target(-9999), set_target(0))[1:],
            [[0, 1], [0, 9999], [0, -9999]],
        )

    def test_out_of_range(self):
        for target in NO_WEIGHTS:
            with self.subTest(target=target):
                self.assertEqual(
                    ask(create(100, 2, 5), set_target(target), set_target(1))[1:],
                    [OUT_OF_RANGE, [0, 100]],
                )


class SetLimits(unittest.TestCase):
    def test_answers_the_old_limits(self):
        self.assertEqual(
            ask(create(100, 2, 5), set_limits(3, 4), set_limits(8, 9))[1:],
            [[0, 2, 5], [0, 3, 4]],
        )

    def test_all_sums_are_reckoned_anew(self):
        calls = [create(0, 1, 9), set_shots([3, 3, -5])]
        self.assertEqual(
            ask(*calls, set_limits(2, 9), upper_sums(), lower_sums())[2:],
            [[0, 1, 9], [3, 1, 2, 0], [3, 0, 0, 3]],
        )

    def test_next_shot_uses_the_new_threshold(self):
        calls = [create(0, 0, 9), add_shot(5), set_limits(0, 5)]
        self.assertEqual(ask_last(*calls, add_shot(0)), [0, 5, 0])
        self.assertEqual(ask_last(*calls, add_shot(1)), [1, 6, 0])

    def test_keeps_all_else(self):
        calls = [create(100, 2, 5), set_shots([104, 90]), set_limits(1, 3)]
        self.assertEqual(held(calls, 2)[2:], [[0, 104], [0, 90], [2], [0, 1, 3], [0, 100]])

    def test_edges_of_the_ranges(self):
        self.assertEqual(
            ask(create(1, 2, 5), set_limits(0, 999), set_limits(999, 0), set_limits(0, 0))[1:],
            [[0, 2, 5], [0, 0, 999], [0, 999, 0]],
        )

    def test_out_of_range_changes_neither(self):
        for limit in NO_LIMITS:
            for call in (set_limits(limit, 7), set_limits(7, limit), set_limits(limit, limit)):
                with self.subTest(call=call):
                    self.assertEqual(
                        ask(create(100, 2, 5), call, set_limits(1, 1))[1:],
                        [OUT_OF_RANGE, [0, 2, 5]],
                    )

    def test_has_no_say_in_the_weights(self):
        self.assertEqual(
            ask_last(create(0, 0, 0), add_shot(4), set_limits(3, 3), set_weight(0, 1)),
            [0, 4],
        )


if __name__ == "__main__":
    unittest.main()

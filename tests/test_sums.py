"""Calls 7 and 8, upper_sums and lower_sums, and point 5 of the requirements."""

import itertools
import unittest

from asking import add_shot, ask, ask_last, create, lower_sums, set_shots, upper_sums


def best_runs(deviations):
    """For each place, the largest sum of a run that ends there, or 0: the sums by another way."""
    return [
        max([0] + [sum(deviations[a:n + 1]) for a in range(n + 1)])
        for n in range(len(deviations))
    ]


class Sums(unittest.TestCase):
    def test_no_shots(self):
        self.assertEqual(ask(create(100, 2, 5), upper_sums(), lower_sums())[1:], [[0], [0]])

    def test_upper_sums(self):
        self.assertEqual(
            ask_last(create(100, 2, 5), set_shots([104, 103, 107, 95, 99, 130]), upper_sums()),
            [6, 2, 3, 8, 1, 0, 28],
        )

    def test_lower_sums(self):
        self.assertEqual(
            ask_last(create(100, 2, 5), set_shots([96, 97, 93, 105, 101, 70]), lower_sums()),
            [6, 2, 3, 8, 1, 0, 28],
        )

    def test_deviation_as_large_as_the_allowance_counts_nothing(self):
        calls = [create(100, 2, 5), set_shots([102, 98, 103, 97])]
        self.assertEqual(ask_last(*calls, upper_sums()), [4, 0, 0, 1, 0])
        self.assertEqual(ask_last(*calls, lower_sums()), [4, 0, 0, 0, 1])

    def test_sums_go_on_after_an_alarm(self):
        calls = [create(0, 0, 1), set_shots([5, 5, 5])]
        self.assertEqual(ask_last(*calls, upper_sums()), [3, 5, 10, 15])

    def test_largest_sums(self):
        steps = [19998 * n for n in range(1, 25)]
        calls = [create(-9999, 0, 0), set_shots([9999] * 24)]
        self.assertEqual(ask(*calls, upper_sums(), lower_sums())[2:], [[24] + steps, [24] + [0] * 24])
        calls = [create(9999, 0, 0), set_shots([-9999] * 24)]
        self.assertEqual(ask(*calls, upper_sums(), lower_sums())[2:], [[24] + [0] * 24, [24] + steps])

    def test_threshold_has_no_say(self):
        weights = set_shots([3, -9, 12])
        for query in (upper_sums(), lower_sums()):
            self.assertEqual(
                ask_last(create(0, 1, 0), weights, query),
                ask_last(create(0, 1, 999), weights, query),
            )

    def test_all_short_lists_on_both_sides_of_the_target(self):
        for target, allowance in itertools.product((-1, 0, 2), (0, 1, 3)):
            for count in range(5):
                for weights in itertools.product((-4, -1, 0, 1, 3, 6), repeat=count):
                    answered = ask(create(target, allowance, 2), set_shots(weights), upper_sums(), lower_sums())
                    above = [x - target - allowance for x in weights]
                    below = [target - x - allowance for x in weights]
                    self.assertEqual(answered[2], [count] + best_runs(above))
                    self.assertEqual(answered[3], [count] + best_runs(below))

    def test_add_shot_answers_the_last_sums_and_their_alarm(self):
        for weights in itertools.product((-4, -1, 0, 2, 5), repeat=4):
            for threshold in (0, 2, 5):
                start = create(0, 1, threshold)
                answered = ask(start, *[add_shot(x) for x in weights], upper_sums(), lower_sums())
                uppers = answered[5][1:]
                lowers = answered[6][1:]
                expected = [
                    [(1 if upper > threshold else 0) + (2 if lower > threshold else 0), upper, lower]
                    for upper, lower in zip(uppers, lowers)
                ]
                self.assertEqual(answered[1:5], expected)


class PointFive(unittest.TestCase):
    def test_no_sum_is_negative(self):
        for weights in ([9999, -9999] * 12, [-9999, 9999] * 12, [-9999] * 24, [9999] * 24, [0] * 24):
            for target, allowance in itertools.product((-9999, 0, 9999), (0, 999)):
                with self.subTest(weights=weights[:2], target=target, allowance=allowance):
                    answered = ask(create(target, allowance, 0), set_shots(weights), upper_sums(), lower_sums())
                    self.assertGreaterEqual(min(answered[2]), 0)
                    self.assertGreaterEqual(min(answered[3]), 0)

    def test_a_sum_that_fell_below_zero_starts_again_from_zero(self):
        self.assertEqual(ask_last(create(0, 0, 0), set_shots([-100, 1]), upper_sums()), [2, 0, 1])
        self.assertEqual(ask_last(create(0, 0, 0), set_shots([100, -1]), lower_sums()), [2, 0, 1])

    def test_a_first_weight_raises_one_sum_at_most(self):
        for weight, allowance in itertools.product(range(-5, 6), range(4)):
            with self.subTest(weight=weight, allowance=allowance):
                answered = ask_last(create(0, allowance, 0), add_shot(weight))
                self.assertEqual(answered[1], max(0, weight - allowance))
                self.assertEqual(answered[2], max(0, -weight - allowance))
                self.assertEqual(min(answered[1:]), 0)

    def test_a_weight_that_raises_one_sum_lowers_the_other(self):
        for weight, allowance in itertools.product(range(-9, 10), range(4)):
            with self.subTest(weight=weight, allowance=allowance):
                # Both sums are far above 0 here, so each step shows in full.
                calls = [create(0, allowance, 0), set_shots([9999, -5000])]
                before_upper, before_lower = (ask_last(*calls, query)[2] for query in (upper_sums(), lower_sums()))
                answered = ask_last(*calls, add_shot(weight))
                self.assertEqual(answered[1] - before_upper, weight - allowance)
                self.assertEqual(answered[2] - before_lower, -weight - allowance)
                if answered[1] > before_upper:
                    self.assertLess(answered[2], before_lower)


if __name__ == "__main__":
    unittest.main()

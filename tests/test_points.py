"""Points 1 to 5 of the requirements, at each shot of several lists of weights."""

import itertools
import unittest

from asking import (
    NO_ALARM, add_shot, add_shot_if, ask, create, first_alarm, lower_sums, onset, set_shots, smallest_alarming_weight,
    upper_sums, worst_runs,
)

LISTS = (
    (),
    (0,),
    (104, 103, 107),
    (96, 97, 93, 104, 100),
    (3, -3, 3, -3, 0, 5, -5, 5),
    (0, 0, 1, -1, 0, 0, 2, 2, -4, 0),
    (-6, 2, 2, 2, -1, 9, -20, 4, 4, 4),
    (9, -4, -5, 9, 0, -9, 1, 8, -9),
    (9999, -9999) * 12,
    (-9999, 9999) * 12,
    (9999,) * 24,
    (-9999,) * 24,
    (0,) * 24,
    tuple(range(-12, 12)),
    tuple(range(12, -12, -1)),
    tuple((7 * n * n) % 31 - 15 for n in range(24)),
    tuple((11 * n * n * n) % 41 + 80 for n in range(24)),
)
TARGETS = (-9999, -100, -3, 0, 2, 100, 9999)
LIMITS = ((0, 0), (0, 5), (1, 0), (2, 5), (40, 7), (999, 999))


def each_chart():
    """Of each chart the calls that make it, its threshold, and both deviations of its shots."""
    for weights, target, (allowance, threshold) in itertools.product(LISTS, TARGETS, LIMITS):
        above = [x - target - allowance for x in weights]
        below = [target - x - allowance for x in weights]
        yield [create(target, allowance, threshold), set_shots(weights)], threshold, (above, below)


def both_sums(start):
    """The upper and the lower sums, without their count."""
    answered = ask(*start, upper_sums(), lower_sums())
    return answered[2][1:], answered[3][1:]


def at_each_shot(start, call, count):
    """The answers to the call at each of so many shots."""
    return ask(*start, *[call(n) for n in range(count)])[2:]


class Points(unittest.TestCase):
    def test_point_1_each_sum_is_the_value_of_the_worst_run(self):
        for start, threshold, deviations in each_chart():
            with self.subTest(start=start):
                uppers, lowers = both_sums(start)
                runs = at_each_shot(start, worst_runs, len(uppers))
                self.assertEqual([run[1] for run in runs], uppers)
                self.assertEqual([run[3] for run in runs], lowers)

    def test_point_1_the_value_is_attained_from_the_start_on(self):
        for start, threshold, (above, below) in each_chart():
            with self.subTest(start=start):
                for n, run in enumerate(at_each_shot(start, worst_runs, len(above))):
                    self.assertEqual(sum(above[run[2]:n + 1]), run[1])
                    self.assertEqual(sum(below[run[4]:n + 1]), run[3])

    def test_point_2_no_run_proves_an_alarm_before_the_first(self):
        for start, threshold, deviations in each_chart():
            with self.subTest(start=start):
                proofs = [
                    n for n in range(len(deviations[0]))
                    if any(sum(side[a:n + 1]) > threshold for side in deviations for a in range(n + 1))
                ]
                answered = ask(*start, first_alarm())[2]
                self.assertEqual(answered[:1], proofs[:1] or NO_ALARM)

    def test_point_3_the_deviations_from_the_onset_on_add_up_to_the_sum(self):
        for start, threshold, deviations in each_chart():
            with self.subTest(start=start):
                sums = both_sums(start)
                for n, onsets in enumerate(at_each_shot(start, onset, len(sums[0]))):
                    self.assertEqual(len(onsets), 2)
                    for first, side, reached in zip(onsets, deviations, sums):
                        self.assertEqual(sum(side[first:n + 1]), reached[n])
                        self.assertNotIn(0, reached[first:n + 1])
                        self.assertEqual(([0] + reached)[first], 0)

    def test_point_4_smallest_alarming_weight(self):
        for start, threshold, deviations in each_chart():
            with self.subTest(start=start):
                target, allowance = start[0][1:3]
                weight = ask(*start, smallest_alarming_weight())[2][1]
                reached = ([0] + both_sums(start)[0])[-1]
                self.assertEqual(max(0, reached + weight - target - allowance), threshold + 1)
                self.assertLessEqual(max(0, reached + weight - 1 - target - allowance), threshold)
                if -9998 <= weight <= 9999:
                    alarm, no_alarm = ask(*start, add_shot_if(weight), add_shot_if(weight - 1))[2:]
                    self.assertEqual([alarm[0] % 2, no_alarm[0] % 2], [1, 0])

    def test_point_5_no_sum_is_negative(self):
        for start, threshold, deviations in each_chart():
            with self.subTest(start=start):
                uppers, lowers = both_sums(start)
                self.assertEqual([x for x in uppers + lowers if x < 0], [])
                added = ask(start[0], *[add_shot(x) for x in start[1][2:]])[1:]
                self.assertEqual([answer[1:] for answer in added], [list(pair) for pair in zip(uppers, lowers)])


if __name__ == "__main__":
    unittest.main()

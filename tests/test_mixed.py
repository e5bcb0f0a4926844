"""Requests that mix all calls, against a chart that follows the document's terms word by word."""

import itertools
import unittest
from fractions import Fraction

from asking import (
    HIGHEST_INTEGER, LOWEST_INTEGER, add_shot, add_shot_if, alarms, ask, clear_shots, create, describe, first_alarm,
    longest_runs, lower_sums, mean_weight, onset, set_limits, set_shots, set_target, set_weight,
    smallest_alarming_weight, upper_sums, worst_runs,
)


def is_weight(number):
    return -9999 <= number <= 9999


def is_limit(number):
    return 0 <= number <= 999


def sums_of(deviations):
    """Each sum as the largest of all runs that end there, or 0 (point 1)."""
    return [
        max([0] + [sum(deviations[a:n + 1]) for a in range(n + 1)])
        for n in range(len(deviations))
    ]


def longest(flags):
    return max([len(list(run)) for flag, run in itertools.groupby(flags) if flag], default=0)


class PlainChart:
    """Answers each call by the words of the document, without a care for how often it reckons."""

    def __init__(self):
        self.settings = None
        self.weights = []

    def answer(self, call):
        number, parameters = call[0], call[1:]
        if number == 0:
            return self.create(*parameters)
        if self.settings is None:
            return [-11]
        if number < 7:
            return self.change(number, parameters)
        return self.query(number, parameters)

    def create(self, target, allowance, threshold):
        if not (is_weight(target) and is_limit(allowance) and is_limit(threshold)):
            return [-22]
        self.settings = (target, allowance, threshold)
        self.weights = []
        return [0]

    def change(self, number, parameters):
        target, allowance, threshold = self.settings
        if number == 1:
            if not is_weight(parameters[0]):
                return [-22]
            if len(self.weights) == 24:
                return [-28]
            self.weights.append(parameters[0])
            return self.state(self.weights)
        if number == 2:
            if len(parameters) - 1 > 24 or not all(is_weight(x) for x in parameters[1:]):
                return [-22]
            self.weights = parameters[1:]
            return [len(self.weights)]
        if number == 3:
            count = len(self.weights)
            self.weights = []
            return [count]
        if number == 4:
            i, weight = parameters
            if i not in range(len(self.weights)):
                return [-2]
            if not is_weight(weight):
                return [-22]
            old = self.weights[i]
            self.weights[i] = weight
            return [0, old]
        if number == 5:
            if not is_weight(parameters[0]):
                return [-22]
            self.settings = (parameters[0], allowance, threshold)
            return [0, target]
        if not (is_limit(parameters[0]) and is_limit(parameters[1])):
            return [-22]
        self.settings = (target, parameters[0], parameters[1])
        return [0, allowance, threshold]

    def deviations(self, weights):
        target, allowance, threshold = self.settings
        return [x - target - allowance for x in weights], [target - x - allowance for x in weights]

    def state(self, weights):
        """What add_shot answers when these are the weights with the new one."""
        upper, lower = [sums_of(side)[-1] for side in self.deviations(weights)]
        threshold = self.settings[2]
        return [(1 if upper > threshold else 0) + (2 if lower > threshold else 0), upper, lower]

    def query(self, number, parameters):
        weights = self.weights
        count = len(weights)
        target, allowance, threshold = self.settings
        sides = self.deviations(weights)
        sums = [sums_of(side) for side in sides]
        alarming = [n for n in range(count) if self.state(weights[:n + 1])[0] > 0]
        if number in (7, 8):
            return [count] + sums[number - 7]
        if number == 9:
            return [alarming[0], self.state(weights[:alarming[0] + 1])[0]] if alarming else [-33]
        if number == 10:
            return [len(alarming)] + alarming
        if number in (11, 12) and parameters[0] not in range(count):
            return [-2]
        if number == 11:
            return [max([k + 1 for k in range(parameters[0] + 1) if side[k] == 0], default=0) for side in sums]
        if number == 12:
            return [0] + [x for side in sides for x in self.worst_run(side, parameters[0])]
        if number == 13:
            return self.state(weights + parameters) if is_weight(parameters[0]) else [-22]
        if number == 14:
            return [0, self.least_weight(([0] + sums[0])[-1])]
        if number == 15:
            return [longest([x > target for x in weights]), longest([x < target for x in weights])]
        if number == 16:
            mean = Fraction(sum(weights), count) if count else None
            return [0, mean.numerator, mean.denominator] if count else [-6]
        return [count, target, allowance, threshold] + weights

    def worst_run(self, deviations, n):
        values = [sum(deviations[a:n + 1]) for a in range(n + 1)]
        return [max(values), values.index(max(values))] if max(values) > 0 else [0, n + 1]

    def least_weight(self, reached):
        """By halving: the upper sum that follows never falls when the weight grows."""
        target, allowance, threshold = self.settings
        low, high = -1000000, 1000000
        while high - low > 1:
            middle = (low + high) // 2
            if max(0, reached + middle - target - allowance) > threshold:
                high = middle
            else:
                low = middle
        return high


class Draw:
    """A row of numbers that looks mixed and is the same each time."""

    def __init__(self, seed):
        self.state = seed

    def below(self, end):
        self.state = (self.state * 6364136223846793005 + 1442695040888963407) % 2 ** 64
        return (self.state >> 33) % end

    def one_of(self, choices):
        return choices[self.below(len(choices))]

    def weight(self):
        if self.below(12) == 0:
            return self.one_of((-9999, 9999, -10000, 10000, LOWEST_INTEGER, HIGHEST_INTEGER))
        return self.below(21) - 10

    def limit(self):
        if self.below(12) == 0:
            return self.one_of((999, -1, 1000, LOWEST_INTEGER, HIGHEST_INTEGER))
        return self.one_of((0, 0, 1, 2, 5, 9))

    def shot(self):
        return self.one_of((0, 1, 2, 3, 5, 8, 23, 24, -1, self.below(24), LOWEST_INTEGER, HIGHEST_INTEGER))

    def weights(self):
        count = self.one_of((0, 1, 2, 5, 9, 23, 24, 24, 25, 70))
        if self.below(8) == 0:
            return [self.weight() for n in range(count)]
        return [self.below(21) - 10 for n in range(count)]

    def call(self, number):
        makers = (
            lambda: create(self.weight(), self.limit(), self.limit()),
            lambda: add_shot(self.weight()),
            lambda: set_shots(self.weights()),
            clear_shots,
            lambda: set_weight(self.shot(), self.weight()),
            lambda: set_target(self.weight()),
            lambda: set_limits(self.limit(), self.limit()),
            upper_sums,
            lower_sums,
            first_alarm,
            alarms,
            lambda: onset(self.shot()),
            lambda: worst_runs(self.shot()),
            lambda: add_shot_if(self.weight()),
            smallest_alarming_weight,
            longest_runs,
            mean_weight,
            describe,
        )
        return makers[number]()


class Mixed(unittest.TestCase):
    def check(self, calls):
        chart = PlainChart()
        with self.subTest(calls=calls):
            self.assertEqual(ask(*calls), [chart.answer(call) for call in calls])

    def test_any_order(self):
        for seed in range(300):
            draw = Draw(seed)
            self.check([draw.call(draw.below(18)) for n in range(1 + draw.below(60))])

    def test_mostly_growing_charts(self):
        for seed in range(300):
            draw = Draw(1000 + seed)
            numbers = [draw.one_of((1, 1, 1, 4, 5, 6) + tuple(range(7, 18))) for n in range(59)]
            self.check([create(draw.below(7) - 3, draw.below(3), draw.below(9))] + [draw.call(n) for n in numbers])

    def test_each_call_behind_each_other(self):
        for first, second in itertools.product(range(18), repeat=2):
            draw = Draw(first * 18 + second)
            start = [create(0, 1, 4), set_shots([draw.below(21) - 10 for n in range(6)])]
            self.check(start + [draw.call(first), draw.call(second), describe()])

    def test_all_18_calls_with_creates_among_them(self):
        refused = (create(10000, 1, 1), create(1, -1, 1), create(1, 1, 1000))
        for seed in range(50):
            draw = Draw(2000 + seed)
            numbers = sorted(range(18), key=lambda n: draw.below(1000))
            calls = [draw.call(n) for n in numbers] + [draw.one_of(refused)]
            calls += [create(1, 1, 3), set_shots([5, -7, 6])] + [draw.call(n) for n in numbers if n != 0]
            calls += [draw.one_of(refused), describe(), create(2, 0, 0)] + [draw.call(n) for n in numbers[:15]]
            self.assertLessEqual(len(calls), 60)
            self.check(calls)

    def test_a_create_that_succeeds_and_one_that_is_refused(self):
        calls = [create(100, 2, 5), add_shot(110), create(100, 2, 1000), first_alarm(), mean_weight(), describe()]
        self.assertEqual(ask(*calls)[2:], [[-22], [0, 1], [0, 110, 1], [1, 100, 2, 5, 110]])
        calls += [create(7, 8, 9), first_alarm(), mean_weight(), onset(0), describe()]
        self.assertEqual(ask(*calls)[6:], [[0], [-33], [-6], [-2], [0, 7, 8, 9]])


if __name__ == "__main__":
    unittest.main()

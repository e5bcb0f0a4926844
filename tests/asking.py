"""Writes calls as the program takes them and takes its answers apart."""

from shotsums.chart import answers

NO_SUCH_SHOT = [-2]
NO_SHOTS = [-6]
NO_INSTANCE = [-11]
OUT_OF_RANGE = [-22]
TOO_MANY_SHOTS = [-28]
NO_ALARM = [-33]

LOWEST_INTEGER = -2147483648
HIGHEST_INTEGER = 2147483647

# The numbers next to each range on the outside, and the outermost ones.
NO_WEIGHTS = (-10000, 10000, LOWEST_INTEGER, HIGHEST_INTEGER)
NO_LIMITS = (-1, 1000, LOWEST_INTEGER, HIGHEST_INTEGER)


def create(target, allowance, threshold):
    return [0, target, allowance, threshold]


def add_shot(weight):
    return [1, weight]


def set_shots(weights):
    return [2, len(weights)] + list(weights)


def clear_shots():
    return [3]


def set_weight(i, weight):
    return [4, i, weight]


def set_target(target):
    return [5, target]


def set_limits(allowance, threshold):
    return [6, allowance, threshold]


def upper_sums():
    return [7]


def lower_sums():
    return [8]


def first_alarm():
    return [9]


def alarms():
    return [10]


def onset(n):
    return [11, n]


def worst_runs(n):
    return [12, n]


def add_shot_if(weight):
    return [13, weight]


def smallest_alarming_weight():
    return [14]


def longest_runs():
    return [15]


def mean_weight():
    return [16]


def describe():
    return [17]


def split_answers(numbers):
    """One list for each answer; the counts ahead of them must fit exactly."""
    result = []
    at = 0
    while at < len(numbers):
        end = at + 1 + numbers[at]
        if numbers[at] < 1 or end > len(numbers):
            raise AssertionError("wrong count at %d of %r" % (at, numbers))
        result.append(numbers[at + 1:end])
        at = end
    return result


def ask(*calls):
    """One answer, as a list, for each of the calls, which are made in one request."""
    result = split_answers(answers(sum(calls, [])))
    if len(result) != len(calls):
        raise AssertionError("%d answers for %d calls" % (len(result), len(calls)))
    return result


def ask_last(*calls):
    """The answer to the last of the calls."""
    return ask(*calls)[-1]


def no_shots_behind(count):
    """Numbers at which there is no shot: next to the ends of so many shots, and the outermost ones."""
    return (-1, -count - 1, count, count + 1, LOWEST_INTEGER, HIGHEST_INTEGER)


def reveal(shots):
    """Calls of 0 to 8 whose answers tell all that an instance with so many shots holds."""
    weights = [set_weight(i, 0) for i in range(shots)]
    return [upper_sums(), lower_sums()] + weights + [clear_shots(), set_limits(0, 0), set_target(0)]


def held(calls, shots):
    """What the instance holds after the calls: all answers to reveal."""
    return ask(*calls, *reveal(shots))[len(calls):]

"""The codes of the refusals, and the ranges of what is handed in."""

NO_SUCH_SHOT = -2
NO_SHOTS = -6
NO_INSTANCE = -11
OUT_OF_RANGE = -22
TOO_MANY_SHOTS = -28
NO_ALARM = -33

MOST_SHOTS = 24
MOST_WEIGHT = 9999
MOST_LIMIT = 999


def in_weight_range(number):
    """Tell whether a number may be a weight or a target: both have the same range."""
    return -MOST_WEIGHT <= number <= MOST_WEIGHT


def in_limit_range(number):
    """Tell whether a number may be an allowance or a threshold: both have the same range."""
    return 0 <= number <= MOST_LIMIT


def all_in_weight_range(numbers):
    """Tell whether each of the numbers may be a weight."""
    for number in numbers:
        if not in_weight_range(number):
            return False
    return True

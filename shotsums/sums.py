"""Cumulative sums and alarm codes."""


def excess(instance, weight):
    """Tell by how much a weight is above the target, less the allowance."""
    return weight - instance.target - instance.allowance


def shortfall(instance, weight):
    """Tell by how much a weight is below the target, less the allowance."""
    return instance.target - weight - instance.allowance


def excesses(instance):
    """List the excess of each shot."""
    return [excess(instance, weight) for weight in instance.weights]


def shortfalls(instance):
    """List the shortfall of each shot."""
    return [shortfall(instance, weight) for weight in instance.weights]


def cumulative(deviations):
    """Add up the deviations one by one, never below 0, and list each sum on the way."""
    reached = 0
    sums = []
    for deviation in deviations:
        reached = max(0, reached + deviation)
        sums.append(reached)
    return sums


def upper_cumulative(instance):
    """List the upper cumulative sum at each shot."""
    return cumulative(excesses(instance))


def lower_cumulative(instance):
    """List the lower cumulative sum at each shot."""
    return cumulative(shortfalls(instance))


def alarm_code(instance, upper, lower):
    """Tell the alarm code at a shot with these two cumulative sums."""
    code = 0
    if upper > instance.threshold:
        code = code + 1
    if lower > instance.threshold:
        code = code + 2
    return code


def alarm_codes(instance):
    """List the alarm code at each shot."""
    uppers = upper_cumulative(instance)
    lowers = lower_cumulative(instance)
    return [alarm_code(instance, upper, lower) for upper, lower in zip(uppers, lowers)]


def state_at_last_shot(instance):
    """List the alarm code, the upper and the lower sum at the last shot; there must be one."""
    upper = upper_cumulative(instance)[-1]
    lower = lower_cumulative(instance)[-1]
    return [alarm_code(instance, upper, lower), upper, lower]

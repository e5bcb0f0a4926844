"""The operations that only ask. Each takes the instance and the parameters of
its call and gives back the answer alone, so it can't put another instance in
the place of the one that is there."""

from shotsums.fraction import lowest_terms
from shotsums.instance import has_shot, with_shot
from shotsums.limits import NO_ALARM, NO_SHOTS, NO_SUCH_SHOT, OUT_OF_RANGE, in_weight_range
from shotsums.runs import longest_positive_run, onset_at_last, worst_run_at_last
from shotsums.sums import alarm_codes, excesses, lower_cumulative, shortfalls, state_at_last_shot, upper_cumulative


def upper_sums(instance, parameters):
    """List the number of shots, then the upper sum at each."""
    return [len(instance.weights)] + upper_cumulative(instance)


def lower_sums(instance, parameters):
    """List the number of shots, then the lower sum at each."""
    return [len(instance.weights)] + lower_cumulative(instance)


def first_alarm(instance, parameters):
    """List the first shot with an alarm and the alarm code at it."""
    for shot, code in enumerate(alarm_codes(instance)):
        if code > 0:
            return [shot, code]
    return [NO_ALARM]


def alarms(instance, parameters):
    """List the number of shots with an alarm, then these shots."""
    shots = [shot for shot, code in enumerate(alarm_codes(instance)) if code > 0]
    return [len(shots)] + shots


def onset(instance, parameters):
    """List the onset at a shot for the upper sum, then for the lower sum."""
    shot = parameters[0]
    if not has_shot(instance, shot):
        return [NO_SUCH_SHOT]
    uppers = upper_cumulative(instance)[:shot + 1]
    lowers = lower_cumulative(instance)[:shot + 1]
    return [onset_at_last(uppers), onset_at_last(lowers)]


def worst_runs(instance, parameters):
    """List 0, then value and start of the worst run for the excess, then for the shortfall."""
    shot = parameters[0]
    if not has_shot(instance, shot):
        return [NO_SUCH_SHOT]
    above = excesses(instance)[:shot + 1]
    below = shortfalls(instance)[:shot + 1]
    return [0] + worst_run_at_last(above) + worst_run_at_last(below)


def add_shot_if(instance, parameters):
    """List what adding this shot would answer if there were always room for it."""
    weight = parameters[0]
    if not in_weight_range(weight):
        return [OUT_OF_RANGE]
    return state_at_last_shot(with_shot(instance, weight))


def smallest_alarming_weight(instance, parameters):
    """List 0, then the smallest weight of a next shot that raises the upper sum above the threshold."""
    # The sum ahead of the first shot is 0.
    reached = ([0] + upper_cumulative(instance))[-1]
    missing = instance.threshold + 1 - reached
    return [0, instance.target + instance.allowance + missing]


def longest_runs(instance, parameters):
    """List the length of the longest run above the target, then of the longest one below it."""
    above = [weight - instance.target for weight in instance.weights]
    below = [instance.target - weight for weight in instance.weights]
    return [longest_positive_run(above), longest_positive_run(below)]


def mean_weight(instance, parameters):
    """List 0, then the mean of all weights as a fraction."""
    count = len(instance.weights)
    if count == 0:
        return [NO_SHOTS]
    return [0] + lowest_terms(sum(instance.weights), count)


def describe(instance, parameters):
    """List the number of shots, the settings and all weights."""
    settings = [instance.target, instance.allowance, instance.threshold]
    return [len(instance.weights)] + settings + instance.weights


QUERIES = {
    7: upper_sums,
    8: lower_sums,
    9: first_alarm,
    10: alarms,
    11: onset,
    12: worst_runs,
    13: add_shot_if,
    14: smallest_alarming_weight,
    15: longest_runs,
    16: mean_weight,
    17: describe,
}


def answer_query(instance, number, parameters):
    """Answer one call that only asks."""
    query = QUERIES[number]
    return query(instance, parameters)

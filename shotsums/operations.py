"""The operations that make or change an instance. Each takes the instance and
the parameters of its call, and gives back the instance that is there
afterwards and the answer."""

from shotsums.instance import Instance, has_shot, with_limits, with_shot, with_target, with_weights
from shotsums.limits import MOST_SHOTS, NO_INSTANCE, NO_SUCH_SHOT, OUT_OF_RANGE, TOO_MANY_SHOTS
from shotsums.limits import all_in_weight_range, in_limit_range, in_weight_range
from shotsums.queries import answer_query
from shotsums.sums import state_at_last_shot

CREATE = 0


def create(instance, parameters):
    """Make an instance without shots."""
    target, allowance, threshold = parameters
    if not (in_weight_range(target) and in_limit_range(allowance) and in_limit_range(threshold)):
        return instance, [OUT_OF_RANGE]
    return Instance(target, allowance, threshold, []), [0]


def add_shot(instance, parameters):
    """Append a shot."""
    weight = parameters[0]
    if not in_weight_range(weight):
        return instance, [OUT_OF_RANGE]
    if len(instance.weights) >= MOST_SHOTS:
        return instance, [TOO_MANY_SHOTS]
    longer = with_shot(instance, weight)
    return longer, state_at_last_shot(longer)


def set_shots(instance, parameters):
    """Replace all weights; here the parameters are the weights."""
    if len(parameters) > MOST_SHOTS or not all_in_weight_range(parameters):
        return instance, [OUT_OF_RANGE]
    return with_weights(instance, parameters), [len(parameters)]


def clear_shots(instance, parameters):
    """Remove all shots."""
    return with_weights(instance, []), [len(instance.weights)]


def set_weight(instance, parameters):
    """Change the weight of one shot."""
    shot, weight = parameters
    if not has_shot(instance, shot):
        return instance, [NO_SUCH_SHOT]
    if not in_weight_range(weight):
        return instance, [OUT_OF_RANGE]
    weights = list(instance.weights)
    weights[shot] = weight
    return with_weights(instance, weights), [0, instance.weights[shot]]


def set_target(instance, parameters):
    """Change the target."""
    target = parameters[0]
    if not in_weight_range(target):
        return instance, [OUT_OF_RANGE]
    return with_target(instance, target), [0, instance.target]


def set_limits(instance, parameters):
    """Change the allowance and the threshold."""
    allowance, threshold = parameters
    if not (in_limit_range(allowance) and in_limit_range(threshold)):
        return instance, [OUT_OF_RANGE]
    return with_limits(instance, allowance, threshold), [0, instance.allowance, instance.threshold]


CHANGES = {
    0: create,
    1: add_shot,
    2: set_shots,
    3: clear_shots,
    4: set_weight,
    5: set_target,
    6: set_limits,
}


def carry_out(instance, number, parameters):
    """Carry out one call; the instance is None as long as there is none."""
    if instance is None and number != CREATE:
        return instance, [NO_INSTANCE]
    if number in CHANGES:
        change = CHANGES[number]
        return change(instance, parameters)
    return instance, answer_query(instance, number, parameters)

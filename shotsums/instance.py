"""What one chart holds."""


class Instance:
    """The settings of a chart and the weights of its shots.

    An instance is not changed once it is made: an operation that succeeds
    makes another one, so a refusal can't leave half of a change behind.
    """

    def __init__(self, target, allowance, threshold, weights):
        self.target = target
        self.allowance = allowance
        self.threshold = threshold
        self.weights = weights


def with_weights(instance, weights):
    """Make an instance with the same settings and other weights."""
    return Instance(instance.target, instance.allowance, instance.threshold, weights)


def with_shot(instance, weight):
    """Make an instance with one more shot, without asking whether there is room for it."""
    return with_weights(instance, instance.weights + [weight])


def with_target(instance, target):
    """Make an instance with another target and all else the same."""
    return Instance(target, instance.allowance, instance.threshold, instance.weights)


def with_limits(instance, allowance, threshold):
    """Make an instance with another allowance and threshold and all else the same."""
    return Instance(instance.target, allowance, threshold, instance.weights)


def has_shot(instance, shot):
    """Tell whether there is a shot of this number."""
    return 0 <= shot < len(instance.weights)

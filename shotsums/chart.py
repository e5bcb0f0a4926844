"""The chart as it is called from outside."""

from shotsums.calls import split_calls
from shotsums.operations import carry_out


def answers(calls):
    """Carry out all calls on a new object; for each, list how many numbers it answers, then these."""
    instance = None
    given = []
    for number, parameters in split_calls(calls):
        instance, answer = carry_out(instance, number, parameters)
        given.append(len(answer))
        given.extend(answer)
    return given

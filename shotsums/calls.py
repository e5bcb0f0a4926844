"""Taking the list of whole numbers apart into calls."""

SET_SHOTS = 2

# How many parameters each call has, by its number; the weights of
# set_shots bring their own count, which stands for its 0 here.
PARAMETER_COUNTS = (3, 1, 0, 0, 2, 1, 2, 0, 0, 0, 0, 1, 1, 1, 0, 0, 0, 0)


def split_calls(numbers):
    """List the calls in order, each as its number and the list of its parameters."""
    calls = []
    at = 0
    while at < len(numbers):
        number = numbers[at]
        if number == SET_SHOTS:
            start = at + 2
            end = start + numbers[at + 1]
        else:
            start = at + 1
            end = start + PARAMETER_COUNTS[number]
        calls.append((number, numbers[start:end]))
        at = end
    return calls

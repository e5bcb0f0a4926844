"""Runs of consecutive shots."""


def onset_at_last(sums):
    """Tell the onset at the last of these cumulative sums: the place behind the last sum of 0."""
    start = len(sums)
    while start > 0 and sums[start - 1] > 0:
        start = start - 1
    return start


def worst_run_at_last(deviations):
    """List the value and the start of the worst run that ends at the last deviation."""
    value = 0
    start = len(deviations)
    total = 0
    for place in range(len(deviations) - 1, -1, -1):
        total = total + deviations[place]
        # The places go down, so an equal total has the smaller start, which is the one asked for.
        if total > 0 and total >= value:
            value = total
            start = place
    return [value, start]


def longest_positive_run(differences):
    """Tell the length of the longest run of differences that are all above 0."""
    longest = 0
    length = 0
    for difference in differences:
        if difference > 0:
            length = length + 1
        else:
            length = 0
        longest = max(longest, length)
    return longest

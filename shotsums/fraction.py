"""Exact fractions."""


def greatest_common_divisor(first, second):
    """Tell the greatest common divisor of two numbers of at least 0, not both 0."""
    while second > 0:
        first, second = second, first % second
    return first


def lowest_terms(numerator, denominator):
    """List the numerator and the denominator in lowest terms; the denominator must be above 0."""
    divisor = greatest_common_divisor(abs(numerator), denominator)
    return [numerator // divisor, denominator // divisor]

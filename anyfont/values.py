"""Small helpers over plain values that several files share."""

from math import gcd


def is_integer(value):
    """Return whether any value is an integer; True and False are none."""
    return isinstance(value, int) and not isinstance(value, bool)


def is_integer_within(value, low, high):
    """Return whether any value is an integer from low to high."""
    return is_integer(value) and low <= value <= high


def is_tuple_of(value, size):
    """Return whether any value is a tuple with so many items."""
    return isinstance(value, tuple) and len(value) == size


def are_integers_within(value, size, low, high):
    """Return whether any value is a tuple of so many integers from low to high."""
    return is_tuple_of(value, size) and all([is_integer_within(item, low, high) for item in value])


def common_divisor(integers):
    """Return the greatest common divisor of integers that are not all 0."""
    common = 0
    for integer in integers:
        common = gcd(common, integer)
    return common


def lowest_terms(numerator, denominator):
    """Return the fraction of two integers; the denominator is at least 1."""
    common = gcd(numerator, denominator)
    return numerator // common, denominator // common


def is_less(fraction, other):
    """Return whether a fraction is less than another one."""
    return fraction[0] * other[1] < other[0] * fraction[1]

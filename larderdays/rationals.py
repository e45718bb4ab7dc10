"""Fractions: tuples (numerator, denominator) in lowest terms, the denominator at least 1."""

from math import gcd


def common_divisor(first, second):
    """Return the greatest common divisor of two integers, at least 0."""
    return gcd(first, second)


def divided(number, other):
    """Return the fraction of two integers, the second one above 0."""
    divisor = common_divisor(number, other)
    return (number // divisor, other // divisor)


def is_less(first, second):
    """Return whether a fraction is less than another one."""
    return first[0] * second[1] < second[0] * first[1]


def added(first, second):
    """Return the sum of two fractions."""
    return divided(first[0] * second[1] + second[0] * first[1], first[1] * second[1])

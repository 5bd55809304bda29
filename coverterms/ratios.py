"""Fractions: tuples (numerator, denominator) with a positive denominator (0.4)."""

from math import gcd


def reduced(numerator, denominator):
    """Return the fraction without a common divisor."""
    divisor = gcd(numerator, denominator)
    return (numerator // divisor, denominator // divisor)


def is_less(one, other):
    """Return whether one is less than other; both may have common divisors."""
    return one[0] * other[1] < other[0] * one[1]

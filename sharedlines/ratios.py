"""Fractions: tuples (top, bottom) in lowest terms, the bottom from 1."""

from math import gcd


def lowest(top, bottom):
    """The fraction of two integers, the bottom from 1."""
    divisor = gcd(top, bottom)
    return (top // divisor, bottom // divisor)


def is_less(one, other):
    """True if a fraction is less than another one."""
    return one[0] * other[1] < other[0] * one[1]

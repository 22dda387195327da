"""Fractions: tuples (top, bottom) in lowest terms."""

from math import gcd

from poolhopes.trees import is_int


def is_fraction(value):
    """Return whether any value is a fraction in lowest terms."""
    if not isinstance(value, tuple) or len(value) != 2 or not all([is_int(number) for number in value]):
        return False
    top, bottom = value
    return bottom > 0 and gcd(top, bottom) == 1


def fraction_of(top, bottom):
    """Return the quotient of two integers."""
    shared = gcd(top, bottom)
    if bottom < 0:
        shared = -shared
    return (top // shared, bottom // shared)

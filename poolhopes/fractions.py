"""Fractions: tuples (top, bottom) in lowest terms.

A ROUGH fraction is such a tuple that need not be in lowest terms: finding these takes long where integers are long.
"""

from math import gcd

from poolhopes.trees import is_int


def is_fraction(value):
    """Return whether any value is a fraction in lowest terms."""
    if not isinstance(value, tuple) or len(value) != 2 or not all([is_int(number) for number in value]):
        return False
    top, bottom = value
    return bottom > 0 and gcd(top, bottom) == 1


def fraction_of(top, bottom):
    """Return the quotient of two integers."""
    shared = gcd(top, bottom)
    if bottom < 0:
        shared = -shared
    return (top // shared, bottom // shared)


def total_of(some):
    """Return the sum of a list of fractions, perhaps rough ones."""
    tops = {1: 0}
    for top, bottom in some:
        tops[bottom] = tops.get(bottom, 0) + top
    sums = [(top, bottom) for bottom, top in tops.items()]
    at = 0
    # Each sum is of two that were waiting longest: so only a few of them have long integers.
    while at + 1 < len(sums):
        sums.append(rough_sum(sums[at], sums[at + 1]))
        at += 2
    top, bottom = sums[at]
    return fraction_of(top, bottom)


def rough_sum(one, other):
    """Return the sum of two rough fractions, as a rough one over the least bottom that both divide."""
    shared = gcd(one[1], other[1])
    mine = other[1] // shared
    theirs = one[1] // shared
    return (one[0] * mine + other[0] * theirs, one[1] * mine)


def product_of(one, other):
    """Return the product of two fractions."""
    return fraction_of(one[0] * other[0], one[1] * other[1])


def difference_of(one, other):
    """Return what is left of a fraction when another one is taken off."""
    top, bottom = rough_sum(one, (-other[0], other[1]))
    return fraction_of(top, bottom)


def is_not_more(one, other):
    """Return whether a fraction is at most another one, both perhaps rough."""
    return one[0] * other[1] <= other[0] * one[1]


def greater_of(one, other):
    """Return the greater one of two fractions."""
    return other if is_not_more(one, other) else one


def cut_to(value, low, high):
    """Return a fraction, or the one of two limits that it is beyond."""
    if not is_not_more(low, value):
        return low
    return value if is_not_more(value, high) else high

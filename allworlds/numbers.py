"""Fractions: tuples of two integers in lowest terms, the bottom above 0."""

from math import gcd, lcm

from allworlds.errors import InvalidNumber, Refused
from allworlds.kinds import is_integer

ZERO = (0, 1)
ONE = (1, 1)


def is_fraction(value):
    """Whether any value is a fraction."""
    if not isinstance(value, tuple) or len(value) != 2:
        return False
    top, bottom = value
    if not is_integer(top) or not is_integer(bottom):
        return False
    return bottom > 0 and gcd(top, bottom) == 1


def fraction_of(top, bottom):
    """The quotient of two integers."""
    if bottom == 0:
        raise InvalidNumber("zero")
    shared = gcd(top, bottom)
    if bottom < 0:
        shared = -shared
    return (top // shared, bottom // shared)


def added(one, other):
    """The sum of two fractions."""
    return fraction_of(one[0] * other[1] + other[0] * one[1], one[1] * other[1])


def taken(one, other):
    """One fraction less the other one."""
    return fraction_of(one[0] * other[1] - other[0] * one[1], one[1] * other[1])


def timed(one, other):
    """The product of two fractions."""
    return fraction_of(one[0] * other[0], one[1] * other[1])


def divided(one, other):
    """One fraction divided by the other one."""
    return fraction_of(one[0] * other[1], one[1] * other[0])


def is_less(one, other):
    """Whether the first of two fractions is less."""
    return one[0] * other[1] < other[0] * one[1]


def common_bottom(fractions):
    """The least number above 0 that all bottoms divide."""
    common = 1
    for fraction in fractions:
        common = lcm(common, fraction[1])
    return common


def tops_over(fractions, bottom):
    """The tops of fractions, written over a bottom that theirs divide."""
    return [top * (bottom // below) for top, below in fractions]


def greatest_of(fractions):
    """The greatest of one or more fractions."""
    best = fractions[0]
    for fraction in fractions:
        if is_less(best, fraction):
            best = fraction
    return best


def least_of(fractions):
    """The least of one or more fractions."""
    best = fractions[0]
    for fraction in fractions:
        if is_less(fraction, best):
            best = fraction
    return best


def order_keys(fractions):
    """Integers in the order of some fractions, equal ones for equal fractions."""
    # Two unlike fractions are further apart than 1 by the product of their bottoms.
    shift = 2 * max([bottom for _, bottom in fractions], default=1).bit_length()
    return [(top << shift) // bottom for top, bottom in fractions]


def total_of_all(fractions):
    """The sum of a tuple or list of fractions."""
    bottom = common_bottom(fractions)
    return fraction_of(sum(tops_over(fractions, bottom)), bottom)


def product_of_all(fractions):
    """The product of a tuple or list of fractions."""
    top, bottom = 1, 1
    for one, other in fractions:
        top = top * one
        bottom = bottom * other
    return fraction_of(top, bottom)


def scaled_tops(tops):
    """Integers from 0 on as fractions of their sum."""
    total = sum(tops)
    if total == 0:
        raise Refused("barred")
    return tuple([fraction_of(top, total) for top in tops])


def scaled_to_one(weights):
    """Fractions from 0 on, each divided by the sum of all."""
    return scaled_tops(tops_over(weights, common_bottom(weights)))

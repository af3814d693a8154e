"""Rows of fractions and weights: which values are some."""

from allworlds.numbers import ONE, common_bottom, is_fraction, is_less, tops_over


def is_bar(value):
    """Whether any value is a fraction from 0 to 1."""
    return is_fraction(value) and value[0] >= 0 and not is_less(ONE, value)


def are_from_zero(value, many):
    """Whether any value is a tuple of so many fractions from 0 on."""
    if not isinstance(value, tuple) or len(value) != many:
        return False
    return all([is_fraction(item) and item[0] >= 0 for item in value])


def is_row(value, count):
    """Whether any value is a row for so many cases: fractions from 0 on with the sum 1."""
    if not are_from_zero(value, count):
        return False
    bottom = common_bottom(value)
    return sum(tops_over(value, bottom)) == bottom


def are_rows(value, many, count):
    """Whether any value is a tuple of so many rows for so many cases."""
    if not isinstance(value, tuple) or len(value) != many:
        return False
    return all([is_row(row, count) for row in value])


def are_weights(value, count):
    """Whether any value is weights for so many cases: fractions from 0 on, not all 0."""
    return are_from_zero(value, count) and any([item[0] > 0 for item in value])

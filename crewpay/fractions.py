"""Exact fractions: tuples (top, bottom) in lowest terms, bottom from 1 on (point 2)."""


def greatest_divisor(top, bottom):
    """The greatest number that divides both; bottom is from 1 on, top may be below 0."""
    while bottom != 0:
        top, bottom = bottom, top % bottom
    return top


def lowest(top, bottom):
    """The fraction of top by bottom, bottom from 1 on, in lowest terms."""
    divisor = greatest_divisor(top, bottom)
    return (top // divisor, bottom // divisor)


def added(one, other):
    """The sum of two fractions."""
    return lowest(one[0] * other[1] + other[0] * one[1], one[1] * other[1])


def whole_part(fraction):
    """The greatest whole number that is no greater than the fraction."""
    return fraction[0] // fraction[1]


def rounded_up(top, bottom):
    """The least whole number that is no less than top by bottom, bottom from 1 on."""
    return -(-top // bottom)

"""Exact fractions: tuples (top, bottom) in lowest terms, bottom from 1 on (point 2)."""


def greatest_divisor(top, bottom):
    """The greatest number that divides both; bottom is from 1 on, top may be below 0."""
    while bottom != 0:
        top, bottom = bottom, top % bottom
    return top


def lowest(top, bottom):
    """The fraction of top by bottom, bottom from 1 on, in lowest terms."""
    divisor = greatest_divisor(top, bottom)
    return (top // divisor, bottom // divisor)

"""Fractions: tuples (top, bottom) in least terms."""

from coinlaw.kinds import is_tuple_of, is_whole


def is_fraction(thing):
    if not is_tuple_of(thing, 2, 2):
        return False
    top, bottom = thing
    return is_whole(top) and is_whole(bottom) and bottom >= 1 and greatest_divisor(top, bottom) == 1


def fraction_of(top, bottom):
    """The fraction that is top divided by bottom, bottom from 1 on."""
    divisor = greatest_divisor(top, bottom)
    return top // divisor, bottom // divisor


def plus(one, other):
    return fraction_of(one[0] * other[1] + other[0] * one[1], one[1] * other[1])


def minus(one, other):
    return plus(one, (-other[0], other[1]))


def times(one, other):
    return fraction_of(one[0] * other[0], one[1] * other[1])


def greatest_divisor(top, bottom):
    """The greatest whole number that divides both, bottom from 1 on."""
    # Behind the first turn both are from 0 on, so a top below nought needs no care.
    while bottom:
        top, bottom = bottom, top % bottom
    return top

"""Rounding by a custom, with what is rounded away."""

from coinlaw.errors import NoCustom, NoNumber, NoStep
from coinlaw.fractions import fraction_of
from coinlaw.kinds import is_whole, is_within


def down(top, bottom):
    return top // bottom


def up(top, bottom):
    return -(-top // bottom)


def to_nought(top, bottom):
    return down(top, bottom) if top > 0 else up(top, bottom)


def from_nought(top, bottom):
    return up(top, bottom) if top > 0 else down(top, bottom)


def nearest_even(top, bottom):
    low = top // bottom
    return nearest(top, bottom, low if low % 2 == 0 else low + 1)


def nearest_far(top, bottom):
    return nearest(top, bottom, from_nought(top, bottom))


def nearest(top, bottom, amid):
    """The nearest whole number, or amid where two are as near."""
    low = top // bottom
    twice = 2 * (top - low * bottom)
    if twice == bottom:
        return amid
    return low if twice < bottom else low + 1


CUSTOMS = {
    "down": down,
    "up": up,
    "in": to_nought,
    "out": from_nought,
    "even": nearest_even,
    "far": nearest_far,
}


def is_custom(thing):
    # Only a text may be looked up: a list or a dict can't be.
    return isinstance(thing, str) and thing in CUSTOMS


def rounded(top, bottom, custom, *, step=1):
    """Top divided by bottom, rounded to a multiple of step: (told, rest)."""
    if not is_whole(top):
        raise NoNumber("the top of a fraction is a whole number")
    if not is_whole(bottom) or bottom < 1:
        raise NoNumber("the bottom of a fraction is a whole number from 1 on")
    if not is_custom(custom):
        raise NoCustom("a custom is one of down, up, in, out, even, far")
    if not is_within(step, 1, 100):
        raise NoStep("a step is a whole number from 1 to 100")
    action = CUSTOMS[custom]
    told = action(top, bottom * step) * step
    return told, fraction_of(top - told * bottom, bottom)

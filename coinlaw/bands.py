"""Taxes by bands."""

from coinlaw.errors import NoBands, NoCoins, NoCustom, NoGoal
from coinlaw.fractions import plus
from coinlaw.kinds import is_rising, is_tuple_of, is_whole, is_within
from coinlaw.roundings import is_custom, rounded


def are_bands(thing):
    if not is_tuple_of(thing, 1, 6) or not all([is_band(band) for band in thing]):
        return False
    floors = [band[0] for band in thing]
    return floors[0] == 0 and is_rising(floors)


def is_band(thing):
    if not is_tuple_of(thing, 3, 3):
        return False
    floor, top, bottom = thing
    return is_whole(floor) and is_within(bottom, 1, 1000) and is_within(top, 0, bottom)


def banded(bands, coins, *, custom="even"):
    """The tax of coins by bands: (tax, rest)."""
    refuse_no_bands(bands)
    if not is_whole(coins) or coins < 0:
        raise NoCoins("coins are a whole number from 0 on")
    if not is_custom(custom):
        raise NoCustom("a custom is one of down, up, in, out, even, far")
    top, bottom = exact_tax(bands, coins)
    return rounded(top, bottom, custom)


def most_for(bands, goal):
    """The greatest number of coins that less their tax are no more than the goal, None where all numbers are."""
    refuse_no_bands(bands)
    if not is_within(goal, 0, 10000000):
        raise NoGoal("a goal is a whole number from 0 to 10,000,000")
    floor, top, bottom = bands[-1]
    # Above the last floor each coin leaves nothing or 1 divided by the bottom at the least.
    beyond = floor + (goal + 1) * bottom
    if left_of(bands, beyond) <= goal:
        return None
    return most_below(bands, goal, beyond)


def most_below(bands, goal, beyond):
    """As most_for, where beyond is too many."""
    # No coin bears more than itself, so that more coins never leave less, and halving finds the last one.
    enough = 0
    while beyond - enough > 1:
        middle = (enough + beyond) // 2
        if left_of(bands, middle) <= goal:
            enough = middle
        else:
            beyond = middle
    return enough


def left_of(bands, coins):
    """Coins less their tax, the tax rounded down."""
    top, bottom = exact_tax(bands, coins)
    return coins - top // bottom


def exact_tax(bands, coins):
    """What all parts of coins bear, a fraction."""
    ends = [band[0] for band in bands[1:]] + [coins]
    tax = (0, 1)
    for (floor, top, bottom), end in zip(bands, ends):
        part = max(0, min(coins, end) - floor)
        tax = plus(tax, (part * top, bottom))
    return tax


def refuse_no_bands(thing):
    if not are_bands(thing):
        raise NoBands("bands are a rising tuple of one to six tuples of a floor, a top and a bottom, the first floor 0")

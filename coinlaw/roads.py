"""Coins along roads of currencies, and what lies between two roads."""

from coinlaw.errors import NoCoins, NoRoad
from coinlaw.fractions import minus, plus, times
from coinlaw.kinds import is_same, is_tuple_of, is_whole, is_within
from coinlaw.rates import refuse_rules_and_day, standing_rate
from coinlaw.roundings import rounded
from coinlaw.rules import codes_of, custom_at


def is_road(rules, day, thing):
    if not is_tuple_of(thing, 2, 6):
        return False
    codes = codes_of(rules)
    if not all([code in codes for code in thing]):
        return False
    # A code has a rate to itself, but that is no step.
    steps = steps_of(rules, day, thing)
    return all([one != other and standing is not None for one, other, standing in steps])


def steps_of(rules, day, road):
    """A tuple (one, other, rate) for each step."""
    return [(one, other, standing_rate(rules, day, one, other)) for one, other in zip(road, road[1:])]


def along(rules, day, coins, road):
    """The paper of coins along a road: rows (one, other, coins, exact, told, rest)."""
    refuse_unlike(rules, day, coins, road)
    return paper_of(coins, steps_of(rules, day, road), custom_at(rules, day))


def is_along(rules, day, coins, road, thing):
    """Whether thing is the paper of coins along a road."""
    return is_same(thing, along(rules, day, coins, road))


def worth(rules, day, coins, road):
    """Coins times all rates of a road."""
    refuse_unlike(rules, day, coins, road)
    return times((coins, 1), all_rates(rules, day, road))


def between(rules, day, coins, road, other):
    """What lies between two roads: (difference, exact, roundings)."""
    refuse_unlike(rules, day, coins, road)
    refuse_no_road(rules, day, other)
    refuse_unlike_ends(road, other)
    first = end_worth_rests(rules, day, coins, road)
    second = end_worth_rests(rules, day, coins, other)
    return tuple([minus(one, two) for one, two in zip(first, second)])


def least_apart(rules, day, road, other, most):
    """The least number of coins up to most that come to unlike coins by both roads, None where there is none."""
    refuse_rules_and_day(rules, day)
    refuse_no_road(rules, day, road)
    refuse_no_road(rules, day, other)
    if not is_within(most, 0, 3000):
        raise NoCoins("the most coins to try are a whole number from 0 to 3,000")
    refuse_unlike_ends(road, other)
    custom = custom_at(rules, day)
    first = steps_of(rules, day, road)
    second = steps_of(rules, day, other)
    for coins in range(most + 1):
        if end_of(paper_of(coins, first, custom)) != end_of(paper_of(coins, second, custom)):
            return coins
    return None


def paper_of(coins, steps, custom):
    rows = []
    held = coins
    for one, other, standing in steps:
        top, bottom = times((held, 1), standing)
        told, rest = rounded(top, bottom, custom)
        rows.append((one, other, held, (top, bottom), told, rest))
        held = told
    return tuple(rows)


def end_of(paper):
    """What comes in the end."""
    return paper[-1][4]


def all_rates(rules, day, road):
    """The rates of a road multiplied."""
    product = (1, 1)
    for one, other, standing in steps_of(rules, day, road):
        product = times(product, standing)
    return product


def end_worth_rests(rules, day, coins, road):
    """What comes in the end, the worth, and the sum of each rest times all rates behind it."""
    steps = steps_of(rules, day, road)
    paper = paper_of(coins, steps, custom_at(rules, day))
    rests = (0, 1)
    for (one, other, standing), row in zip(steps, paper):
        rests = plus(times(rests, standing), row[5])
    return (end_of(paper), 1), times((coins, 1), all_rates(rules, day, road)), rests


def refuse_unlike(rules, day, coins, road):
    refuse_rules_and_day(rules, day)
    if not is_whole(coins):
        raise NoCoins("coins are a whole number")
    refuse_no_road(rules, day, road)


def refuse_no_road(rules, day, thing):
    if not is_road(rules, day, thing):
        raise NoRoad("a road is a tuple of two to six codes, from each to the next one a rate standing at the day")


def refuse_unlike_ends(road, other):
    if road[0] != other[0] or road[-1] != other[-1]:
        raise NoRoad("both roads have the same first and the same last code")

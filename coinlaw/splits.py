"""Splitting coins by weights."""

from coinlaw.errors import NoCoins, NoWay, NoWeights
from coinlaw.fractions import fraction_of
from coinlaw.kinds import is_tuple_of, is_whole, is_within


def are_weights(thing):
    if not is_tuple_of(thing, 1, 12):
        return False
    return all([is_within(weight, 0, 1000000) for weight in thing]) and sum(thing) > 0


def by_greatest(coins, weights):
    """Each part rounded down, and the coins that are left to the greatest rests."""
    whole = sum(weights)
    parts = [coins * weight // whole for weight in weights]
    # Of like rests the one further to the left comes first, as its place is the lesser one.
    ranks = sorted([(-(coins * weight % whole), at) for at, weight in enumerate(weights)])
    left = coins - sum(parts)
    for rest, at in ranks[:left]:
        parts[at] += 1
    return parts


def by_running(coins, weights):
    """Each part what all parts up to it come to, rounded down, less what was given ahead."""
    whole = sum(weights)
    parts = []
    weighed = 0
    given = 0
    for weight in weights:
        weighed += weight
        due = coins * weighed // whole
        parts.append(due - given)
        given = due
    return parts


def by_last(coins, weights):
    """Each part rounded down, but the last one with a weight above 0, which is the rest."""
    whole = sum(weights)
    parts = [coins * weight // whole for weight in weights]
    last = max([at for at, weight in enumerate(weights) if weight > 0])
    parts[last] += coins - sum(parts)
    return parts


WAYS = {"greatest": by_greatest, "running": by_running, "last": by_last}


def split(coins, weights, *, way="greatest"):
    """Coins split by weights: (parts, rests)."""
    refuse_unlike(coins, weights)
    if not isinstance(way, str) or way not in WAYS:
        raise NoWay("a way to split is one of greatest, running, last")
    action = WAYS[way]
    parts = action(abs(coins), weights)
    if coins < 0:
        parts = [-part for part in parts]
    whole = sum(weights)
    rests = [fraction_of(coins * weight - part * whole, whole) for weight, part in zip(weights, parts)]
    return tuple(parts), tuple(rests)


def is_fair(coins, weights, thing):
    """Whether thing is parts that come to coins, each less than 1 away from its exact part."""
    refuse_unlike(coins, weights)
    many = len(weights)
    if not is_tuple_of(thing, many, many) or not all([is_whole(part) for part in thing]):
        return False
    whole = sum(weights)
    near = [abs(coins * weight - part * whole) < whole for weight, part in zip(weights, thing)]
    return all(near) and sum(thing) == coins


def refuse_unlike(coins, weights):
    if not is_whole(coins):
        raise NoCoins("coins are a whole number")
    if not are_weights(weights):
        raise NoWeights("weights are a tuple of one to twelve whole numbers from 0 to 1,000,000, not all 0")

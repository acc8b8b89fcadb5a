"""What several tests need: things of other kinds, and asking twice without a change."""

import copy
import math
import random
from fractions import Fraction

THIRTY = 10 ** 29
TRUTHS = (True, False)
CUSTOMS = ("down", "up", "in", "out", "even", "far")

# Nothing here is a day, a date, a fraction, a custom, a step, weights, a way, rules or a split.
NEITHER = (
    None, True, False, "", " ", "0", "a", "abc", "no such word", "a\tb\n", "~" * 400,
    [], [0], [1, 2, 3], [None], (), ((),), (None,), (True,), ("a",), ((1, 2), (3, 4)),
    {}, {0: 0}, {"day": 1}, {"a": [1, {"b": (2,)}]},
    (1, 2, 3, 4, 5, 6, 7, 8, 9, 10, 11, 12, 13), [[[[[[[[[[]]]]]]]]]],
)
NO_DAYS = NEITHER + (-1, 10000, THIRTY, -THIRTY, (0,), [0], {0: 0})
EUROS = (("eur", 2, 1),)
NO_RULES = NEITHER + (
    0, 1, "rules", [EUROS, (), (), ()], (EUROS, (), ()), (EUROS, (), (), (), ()), ((), (), (), ()),
    (EUROS + EUROS, (), (), ()), (EUROS, [], (), ()), (EUROS, (), None, ()), (EUROS, (), (), ((1, "even"),)),
    (EUROS, (("eur", "eur", 0, 1, 1),), (), ()), ((("eur", 2, True),), (), (), ()), ((EUROS, (), (), ()),),
)
NO_ACCOUNTS = NEITHER + (
    0, "ann", ("ann",), ("eur",), ("ann", "eur", 0), ["ann", "eur"], ("ann", "zzz"), ("ann", "EUR"), ("ann", "eu"),
    ("", "eur"), ("Ann", "eur"), ("abcdefghi", "eur"), ("an n", "eur"), ("ann1", "eur"), (None, "eur"), ("ann", None),
    (True, "eur"), ("ann", True), (["ann"], "eur"), ("ann", ["eur"]), ("ann", {}), ({}, "eur"), (("ann",), "eur"),
    ("ann", ("eur",)), (("ann", "eur"),), ("eur", "ann"), {"ann": "eur"}, (0, 1), ("ann\n", "eur"), ("ann", "eur\n"),
)
NO_PARTS = NEITHER + (
    0, 1, (1,), (1, 2, 3), [1, 2], (-1, 2), (101, 1000), (1, 0), (1, 1001), (0, 0), (True, 2), (1, True), (1, None),
    (None, 2), ("1", 2), (1, "2"), ([1], 2), (1, [2]), ((1, 2),), (THIRTY, THIRTY), (1, -2), {1: 2}, (False, 1),
)


def asked(test, function, *things, **named):
    """What function tells; the test fails where asking changed what was handed in, or asking again tells otherwise."""
    before = copy.deepcopy((things, named))
    first = function(*things, **named)
    again = function(*things, **named)
    test.assertEqual(repr((things, named)), repr(before))
    test.assertEqual(repr(first), repr(again))
    return first


def refused(test, error, function, *things, **named):
    """The test fails where function does not refuse by just this class, or changes what was handed in."""
    before = copy.deepcopy((things, named))
    for again in range(2):
        with test.assertRaises(error, msg=repr(before)[:200]) as caught:
            function(*things, **named)
        test.assertIs(type(caught.exception), error, repr(before)[:200])
    test.assertEqual(repr((things, named)), repr(before))


def yes(test, function, *things, **named):
    test.assertIs(asked(test, function, *things, **named), True, repr((things, named))[:600])


def no(test, function, *things, **named):
    test.assertIs(asked(test, function, *things, **named), False, repr((things, named))[:600])


def same_kind(test, told, expected):
    """Equal, and a number is no truth nor a tuple a list, at any depth."""
    test.assertEqual(repr(told), repr(expected))


def like(test, one, other):
    for left, right in ((one, other), (other, one)):
        test.assertIs(left == right, True)
        test.assertIs(left != right, False)


def unlike(test, one, other):
    for left, right in ((one, other), (other, one)):
        test.assertIs(left == right, False)
        test.assertIs(left != right, True)


def round_by_hand(exact, custom, step=1):
    """What is told, by another road than the program's."""
    exact = exact / step
    low, high = math.floor(exact), math.ceil(exact)
    if custom == "down":
        told = low
    elif custom == "up":
        told = high
    elif custom == "in":
        told = min(low, high, key=abs)
    elif custom == "out":
        told = max(low, high, key=abs)
    elif custom == "even":
        told = round(exact)
    else:
        told = math.floor(abs(exact) + Fraction(1, 2)) * (1 if exact > 0 else -1)
    return told * step


def rate_by_look(rules, day, one, other):
    """The rate as a Fraction, None where none stands, by a look at each row."""
    if one == other:
        return Fraction(1)
    best = None
    for less, greater, since, top, bottom in rules[1]:
        if since <= day and {less, greater} == {one, other} and (best is None or since > best[0]):
            best = (since, Fraction(top, bottom) if less == one else Fraction(bottom, top))
    return None if best is None else best[1]


def shuffled(things, many):
    """Numbered lists of the things, each in another order."""
    for turn in range(many):
        yield turn, random.Random(turn).sample(list(things), len(things))


def pair(number):
    """A Fraction as the program tells it."""
    return number.numerator, number.denominator


def places(thing, path=()):
    """The path of each part of thing, at each depth, thing itself too."""
    yield path
    if isinstance(thing, tuple):
        for at, part in enumerate(thing):
            yield from places(part, path + (at,))


def part_at(thing, path):
    for at in path:
        thing = thing[at]
    return thing


def put(thing, path, new):
    """Thing with new at the path."""
    if not path:
        return new
    at = path[0]
    return thing[:at] + (put(thing[at], path[1:], new),) + thing[at + 1:]


def otherwise(thing):
    """Thing, made of tuples, numbers and texts, with something otherwise at just one place, whichever."""
    for path in places(thing):
        part = part_at(thing, path)
        for new in other_parts(part):
            if repr(new) != repr(part):
                yield put(thing, path, new)


def other_parts(part):
    yield from (None, True, False, "", "other", [], {}, (), [part], (part,), {"part": part}, 0, THIRTY, -THIRTY)
    if isinstance(part, int):
        yield from (part + 1, part - 1, -part, str(part), part * 2)
    elif isinstance(part, str):
        yield from (part + "a", part[:-1], part.upper(), part[::-1], list(part), tuple(part))
    else:
        yield from (list(part), dict(enumerate(part)), part[::-1], part + part, part + (None,), (0,) + part)
        for at in range(len(part)):
            yield part[:at] + part[at + 1:]
            yield part[:at + 1] + part[at:]
        for at in range(1, len(part)):
            yield part[:at - 1] + (part[at], part[at - 1]) + part[at + 1:]

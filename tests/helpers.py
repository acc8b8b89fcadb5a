"""What several tests need: things of other kinds, and asking twice without a change."""

import copy

THIRTY = 10 ** 29
TRUTHS = (True, False)

# Nothing here is a day, a date, a fraction, a custom, a step, weights, a way, rules or a split.
NEITHER = (
    None, True, False, "", " ", "0", "a", "abc", "no such word", "a\tb\n", "~" * 400,
    [], [0], [1, 2, 3], [None], (), ((),), (None,), (True,), ("a",), ((1, 2), (3, 4)),
    {}, {0: 0}, {"day": 1}, {"a": [1, {"b": (2,)}]},
    (1, 2, 3, 4, 5, 6, 7, 8, 9, 10, 11, 12, 13), [[[[[[[[[[]]]]]]]]]],
)


def asked(test, function, *things, **named):
    """What function tells; the test fails where asking changed what was handed in, or asking again tells otherwise."""
    before = copy.deepcopy((things, named))
    first = function(*things, **named)
    again = function(*things, **named)
    test.assertEqual(repr((things, named)), repr(before))
    test.assertEqual(repr(first), repr(again))
    return first


def refused(test, error, function, *things, **named):
    """The test fails where function does not refuse by just this class, or changes what was handed in."""
    before = copy.deepcopy((things, named))
    for again in range(2):
        with test.assertRaises(error, msg=repr(before)[:200]) as caught:
            function(*things, **named)
        test.assertIs(type(caught.exception), error, repr(before)[:200])
    test.assertEqual(repr((things, named)), repr(before))


def same_kind(test, told, expected):
    """Equal, and a number is no truth nor a tuple a list, at any depth."""
    test.assertEqual(repr(told), repr(expected))

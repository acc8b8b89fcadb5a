"""[30] and [31], with [2] to [5] as far as they speak of splits."""

import itertools
import math
import unittest
from fractions import Fraction

from coinlaw.errors import NoCoins, NoWay, NoWeights
from coinlaw.fractions import is_fraction
from coinlaw.splits import is_fair, split
from helpers import NEITHER, THIRTY, TRUTHS, asked, pair, refused, same_kind

WAYS = ("greatest", "running", "last")
MILLION = 1000000

# coins, weights, then the parts by each way, in the order of WAYS.
PARTS = (
    (0, (1,), ((0,), (0,), (0,))),
    (7, (1,), ((7,), (7,), (7,))),
    (-7, (1,), ((-7,), (-7,), (-7,))),
    (0, (1, 2, 0), ((0, 0, 0),) * 3),
    (1, (1, 1), ((1, 0), (0, 1), (0, 1))),
    (-1, (1, 1), ((-1, 0), (0, -1), (0, -1))),
    (100, (1, 1, 1), ((34, 33, 33), (33, 33, 34), (33, 33, 34))),
    (-100, (1, 1, 1), ((-34, -33, -33), (-33, -33, -34), (-33, -33, -34))),
    (5, (1, 1, 1), ((2, 2, 1), (1, 2, 2), (1, 1, 3))),
    (10, (1, 2, 4), ((1, 3, 6), (1, 3, 6), (1, 2, 7))),
    (10, (4, 2, 1), ((6, 3, 1), (5, 3, 2), (5, 2, 3))),
    (-10, (4, 2, 1), ((-6, -3, -1), (-5, -3, -2), (-5, -2, -3))),
    (5, (0, 1, 1, 0), ((0, 3, 2, 0), (0, 2, 3, 0), (0, 2, 3, 0))),
    (5, (1, 0, 1), ((3, 0, 2), (2, 0, 3), (2, 0, 3))),
    (7, (3, 0, 3, 0, 3, 0, 0), ((3, 0, 2, 0, 2, 0, 0), (2, 0, 2, 0, 3, 0, 0), (2, 0, 2, 0, 3, 0, 0))),
    (11, (1,) * 12, ((1,) * 11 + (0,), (0,) + (1,) * 11, (0,) * 11 + (11,))),
    (1, (0, MILLION, 1), ((0, 1, 0), (0, 0, 1), (0, 0, 1))),
    (1, (1, MILLION, 0), ((0, 1, 0), (0, 1, 0), (0, 1, 0))),
    (THIRTY, (1, 1), ((THIRTY // 2,) * 2,) * 3),
)

WEIGHTS = (
    (1,), (MILLION,), (1, 1), (1, 2), (2, 1), (0, 1), (1, 0), (1, 1, 1), (3, 5, 7), (7, 5, 3), (0, 0, 9), (9, 0, 0),
    (0, 4, 0, 4, 0), (1, MILLION), (MILLION, 1), (2, 2, 3, 3, 2, 2), (1, 10, 100, 1000, 10000, 100000, MILLION),
    (0, 1, 2, 3, 4, 5, 6, 7, 8, 9, 10, 0), (MILLION,) * 12, (1,) * 11 + (0,), (0,) * 11 + (1,), (6, 6, 6, 0, 6, 6, 6),
)
COINS = (0, 1, 2, 3, 4, 5, 7, 10, 11, 12, 13, 99, 100, 101, 1000, 999999, 12345678901, THIRTY, 10 ** 30 - 1, 10 ** 60)

NO_WEIGHTS = (
    (), (0,), (0, 0), (0,) * 12, (1,) * 13, (0,) * 12 + (1,), (-1,), (-1, 2), (2, -1), (1, -1), (MILLION + 1,),
    (1, MILLION + 1), (1, THIRTY), (-THIRTY, 1), [1], [1, 2], (True,), (1, True), (False, 1),
    (None,), (1, None), ("1",), (1, "1"), "11",
    ((1,),), (1, (2,)), (1, [2]), ({},), {1: 1}, {}, 1, 0, (1, ()), (1, []),
)


def exact_parts(coins, weights):
    return [Fraction(coins * weight, sum(weights)) for weight in weights]


def by_hand(coins, weights, way):
    """The parts, by another road than the program's."""
    if coins < 0:
        return tuple(-part for part in by_hand(-coins, weights, way))
    exact = exact_parts(coins, weights)
    parts = [math.floor(part) for part in exact]
    if way == "greatest":
        given = [False] * len(parts)
        while sum(parts) < coins:
            best = None
            for at, part in enumerate(exact):
                if not given[at] and (best is None or part % 1 > exact[best] % 1):
                    best = at
            given[best] = True
            parts[best] += 1
    elif way == "running":
        sums = [math.floor(part) for part in itertools.accumulate(exact)]
        parts = [one - other for one, other in zip(sums, [0] + sums)]
    else:
        last = len(weights) - 1
        while weights[last] == 0:
            last -= 1
        parts[last] = coins - sum(parts[:last])
    return tuple(parts)


def pairs():
    for weights in WEIGHTS:
        for coins in COINS:
            yield coins, weights
            yield -coins, weights


class Splits(unittest.TestCase):
    def check(self, coins, weights, way, parts):
        rests = [exact - part for exact, part in zip(exact_parts(coins, weights), parts)]
        told = tuple(pair(rest) for rest in rests)
        same_kind(self, asked(self, split, coins, weights, way=way), (parts, told))

    def test_each_way(self):
        for coins, weights, rows in PARTS:
            for way, parts in zip(WAYS, rows):
                with self.subTest(coins=coins, weights=weights, way=way):
                    self.check(coins, weights, way, parts)

    def test_rests(self):
        same_kind(self, split(100, (1, 1, 1)), ((34, 33, 33), ((-2, 3), (1, 3), (1, 3))))
        same_kind(self, split(-100, (1, 1, 1)), ((-34, -33, -33), ((2, 3), (-1, 3), (-1, 3))))
        same_kind(self, split(4, (1, 0, 1)), ((2, 0, 2), ((0, 1), (0, 1), (0, 1))))
        same_kind(self, split(5, (1, 1, 1), way="last"), ((1, 1, 3), ((2, 3), (2, 3), (-4, 3))))

    def test_many_by_another_road(self):
        for coins, weights in pairs():
            for way in WAYS:
                with self.subTest(coins=coins, weights=weights, way=way):
                    self.check(coins, weights, way, by_hand(coins, weights, way))

    def test_all_small_ones(self):
        for many in range(1, 5):
            for weights in itertools.product(range(4), repeat=many):
                if any(weights):
                    for coins in (-5, -1, 0, 1, 2, 3, 7):
                        for way in WAYS:
                            self.assertEqual(split(coins, weights, way=way)[0], by_hand(coins, weights, way))

    def test_the_way_left_out(self):
        for coins, weights in pairs():
            same_kind(self, split(coins, weights), split(coins, weights, way="greatest"))

    def test_parts_come_to_coins_and_rests_to_nought(self):
        for coins, weights in pairs():
            for way in WAYS:
                parts, rests = split(coins, weights, way=way)
                self.assertEqual((type(parts), type(rests)), (tuple, tuple))
                self.assertTrue(all(is_fraction(rest) for rest in rests))
                self.assertEqual(sum(parts), coins)
                self.assertEqual(sum(Fraction(*rest) for rest in rests), 0)
                for exact, part, rest in zip(exact_parts(coins, weights), parts, rests, strict=True):
                    self.assertEqual(part + Fraction(*rest), exact)

    def test_by_name(self):
        same_kind(self, asked(self, split, way="running", weights=(1, 1, 1), coins=5)[0], (1, 2, 2))
        same_kind(self, asked(self, split, weights=(1, 1, 1), coins=5)[0], (2, 2, 1))
        with self.assertRaises(TypeError):
            split(5, (1, 1, 1), "greatest")


class FairSplits(unittest.TestCase):
    def fair(self, coins, weights, thing):
        self.assertIs(asked(self, is_fair, coins, weights, thing), True, (coins, weights, thing))

    def unfair(self, coins, weights, thing):
        self.assertIs(asked(self, is_fair, coins, weights, thing), False, repr((coins, weights, thing))[:300])

    def test_the_first_two_ways_are_fair(self):
        for coins, weights in pairs():
            self.fair(coins, weights, split(coins, weights)[0])
            self.fair(coins, weights, split(coins, weights, way="running")[0])

    def test_some_by_hand(self):
        for parts in ((2, 2, 1), (2, 1, 2), (1, 2, 2)):
            self.fair(5, (1, 1, 1), parts)
            self.fair(-5, (1, 1, 1), tuple(-part for part in parts))
            self.unfair(-5, (1, 1, 1), parts)
        self.fair(1, (1, 1), (0, 1))
        self.fair(1, (1, 1), (1, 0))
        self.fair(10, (4, 2, 1), (5, 3, 2))
        self.fair(0, (3, 4), (0, 0))
        # the coins are right, but a part is 1 or more away
        self.unfair(5, (1, 1, 1), (1, 1, 3))
        self.unfair(4, (1, 1), (1, 3))
        self.unfair(0, (3, 4), (1, -1))
        self.unfair(1, (1, 0), (0, 1))
        self.unfair(3, (1, 1), (3, 0))
        self.unfair(-4, (1, 1), (-3, -1))
        # each part is near, but the coins are not right
        self.unfair(5, (1, 1, 1), (2, 2, 2))
        self.unfair(5, (1, 1, 1), (1, 1, 1))
        self.unfair(1, (1, 1), (0, 0))
        self.unfair(1, (1, 1), (1, 1))

    def test_each_tuple_of_small_parts(self):
        for coins in range(-4, 5):
            for weights in ((1, 1, 1), (0, 1, 2), (3, 1, 1), (5, 0, 0)):
                exact = exact_parts(coins, weights)
                for parts in itertools.product(range(-5, 6), repeat=3):
                    near = all(abs(part - right) < 1 for part, right in zip(parts, exact))
                    self.assertIs(is_fair(coins, weights, parts), near and sum(parts) == coins, (coins, weights, parts))

    def test_parts_otherwise(self):
        for coins, weights in pairs():
            parts = split(coins, weights)[0]
            for at in range(len(parts)):
                for more in (1, -1, 2, -2, THIRTY):
                    self.unfair(coins, weights, parts[:at] + (parts[at] + more,) + parts[at + 1:])
                self.unfair(coins, weights, parts[:at] + parts[at + 1:])
                self.unfair(coins, weights, parts[:at + 1] + parts[at:])
                for thing in (None, True, False, "", str(parts[at]), [parts[at]], (parts[at],), {}, []):
                    self.unfair(coins, weights, parts[:at] + (thing,) + parts[at + 1:])
            for thing in (list(parts), parts + (0,), (0,) + parts, (parts,), dict(enumerate(parts)),
                          split(coins, weights)):
                self.unfair(coins, weights, thing)

    def test_a_coin_moved(self):
        # exact parts are whole, so that any coin moved is one too far
        for one, other in itertools.permutations(range(4), 2):
            parts = [2, 4, 6, 8]
            parts[one] += 1
            parts[other] -= 1
            self.unfair(20, (1, 2, 3, 4), tuple(parts))
        self.fair(20, (1, 2, 3, 4), (2, 4, 6, 8))

    def test_truths_are_no_parts(self):
        self.fair(1, (1, 1), (1, 0))
        for parts in ((True, 0), (1, False), (True, False), (False, 1), (False, True)):
            self.unfair(1, (1, 1), parts)

    def test_things_of_other_kinds(self):
        for thing in NEITHER + (0, 1, 5, -5, THIRTY):
            for weights in ((1,), (1, 1), (1, 2, 3)):
                for coins in (0, 5, -5):
                    self.unfair(coins, weights, thing)

    def test_by_name(self):
        self.assertIs(asked(self, is_fair, thing=(2, 2, 1), weights=(1, 1, 1), coins=5), True)
        self.assertIs(asked(self, is_fair, thing=(3, 1, 1), weights=(1, 1, 1), coins=5), False)


class Refusals(unittest.TestCase):
    def test_no_coins(self):
        for thing in NEITHER + ("5", (5,), [5]):
            refused(self, NoCoins, split, thing, (1, 2))
            refused(self, NoCoins, is_fair, thing, (1, 2), (1, 2))

    def test_no_weights(self):
        for thing in NEITHER + NO_WEIGHTS:
            refused(self, NoWeights, split, 5, thing)
            refused(self, NoWeights, is_fair, 5, thing, (1, 2))

    def test_bounds_of_weights(self):
        for weights in ((1,), (0, 1), (MILLION,), (MILLION,) * 12, (0,) * 11 + (1,)):
            split(5, weights)
            is_fair(5, weights, ())
        for weights in (TRUTHS, TRUTHS[:1], (MILLION,) * 11 + (MILLION + 1,)):
            refused(self, NoWeights, split, 5, weights)

    def test_no_way(self):
        for thing in NEITHER + (0, 1, "Greatest", "greatest ", "first", "most", ["last"], ("last",), {"last": 1}):
            refused(self, NoWay, split, 5, (1, 2), way=thing)

    def test_the_one_further_to_the_left_first(self):
        refused(self, NoCoins, split, None, (), way="first")
        refused(self, NoCoins, split, True, (1,), way="first")
        refused(self, NoCoins, split, "5", [], way="last")
        refused(self, NoWeights, split, 5, (), way="first")
        refused(self, NoWeights, split, way=None, weights=[1], coins=5)
        refused(self, NoCoins, is_fair, None, (), None)
        refused(self, NoCoins, is_fair, False, (0,), (0,))
        refused(self, NoWeights, is_fair, 5, (0,), None)
        refused(self, NoWeights, is_fair, 5, [1], (5,))


if __name__ == "__main__":
    unittest.main()

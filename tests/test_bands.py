"""[51], with [2] to [5] as far as they speak of bands."""

import itertools
import random
import unittest
from fractions import Fraction

from coinlaw.bands import banded, most_for
from coinlaw.errors import NoBands, NoCoins, NoCustom, NoGoal
from helpers import (
    CUSTOMS, NEITHER, THIRTY, TRUTHS, asked, pair, part_at, places, put, refused, round_by_hand, same_kind,
)

MOST = 10000000
PLAIN = ((0, 0, 1), (1000, 1, 5), (5000, 2, 5))
FREE = ((0, 0, 1000),)
FULL = ((0, 1, 1),)
SIX = ((0, 1, 3), (1, 1, 2), (2, 2, 3), (10, 0, 1), (11, 999, 1000), (1000, 1, 1000))
FALLING = ((0, 9, 10), (7, 1, 2), (20, 1, 10))
TOPPED = ((0, 1, 4), (100, 1, 2), (300, 1000, 1000))
GAPPED = ((0, 1, 1), (50, 1, 7), (51, 1, 1), (80, 2, 7))
FAR = ((0, 1, 10), (THIRTY, 1, 2))
ALL = (PLAIN, FREE, FULL, SIX, FALLING, TOPPED, GAPPED, FAR, ((0, 1, 2),), ((0, 999, 1000),), ((0, 3, 6), (5, 2, 2)))

NO_BANDS = NEITHER + (
    0, 1, "bands", [(0, 0, 1)], ([0, 0, 1],), ((0, 0),), ((0, 0, 1, 1),), (0, 0, 1), ((1, 0, 1),), ((-1, 0, 1),),
    ((-1, 0, 1), (0, 0, 1)), ((0, -1, 1),), ((0, 2, 1),), ((0, 0, 0),), ((0, 1, 0),), ((0, 0, -1),), ((0, -2, -1),),
    ((0, 1, 1001),), ((0, 1001, 1001),), ((0, 1001, 1000),), ((0, 0, THIRTY),), ((0, THIRTY, 1000),),
    ((0, 0, 1), (0, 1, 1)), ((0, 0, 1), (0, 0, 2)), ((0, 0, 1), (5, 0, 1), (5, 1, 1)),
    ((0, 0, 1), (5, 0, 1), (4, 0, 1)), ((5, 0, 1), (0, 0, 1)),
    ((0, 0, 1), (-1, 0, 1)), tuple((at, 0, 1) for at in range(7)), ((0, 0, 1), None),
    ((False, 0, 1),), ((0, False, 1),), ((0, 0, True),), ((0, 0, 1), (True, 0, 1)), ((0, 0, 1), (1, True, 1)),
    ((None, 0, 1),), ((0, None, 1),), ((0, 0, None),), (("0", 0, 1),), ((0, "0", 1),), ((0, 0, "1"),), (([], 0, 1),),
    ((0, [], 1),), ((0, 0, {}),), ((0, 0, 1), ("1", 0, 1)), {0: (0, 0, 1)}, ((0, 0, 1), ((1,), 0, 1)),
)


def exact_by_hand(bands, coins):
    """The exact tax, each coin's share by the steps from floor to floor."""
    tax = Fraction(0)
    for floor, top, bottom in reversed(bands):
        if coins > floor:
            tax += (coins - floor) * Fraction(top, bottom)
            coins = floor
    return tax


def left_by_hand(bands, coins):
    return coins - exact_by_hand(bands, coins).__floor__()


def some_coins(bands):
    """Coins 0, few, beside each floor and at it, far above the last one."""
    numbers = {0, 1, 2, 3, 7, 12345, MOST, 10 ** 12, THIRTY, 10 ** 40}
    for floor, _, _ in bands:
        numbers |= {floor - 2, floor - 1, floor, floor + 1, floor + 2, 3 * floor}
    return sorted(number for number in numbers if number >= 0)


def many_bands():
    chance = random.Random(51)
    for turn in range(120):
        floors = [0] + sorted(chance.sample(range(1, (30, 3000, MOST)[turn % 3]), turn % 6))
        bottoms = [chance.choice((1, 2, 3, 10, 100, 999, 1000)) for _ in floors]
        yield tuple((floor, chance.choice((0, bottom, chance.randint(0, bottom))), bottom)
                    for floor, bottom in zip(floors, bottoms))


class Taxes(unittest.TestCase):
    def check(self, bands, coins):
        exact = exact_by_hand(bands, coins)
        for custom in CUSTOMS:
            tax = round_by_hand(exact, custom)
            same_kind(self, asked(self, banded, bands, coins, custom=custom), (tax, pair(exact - tax)))
        tax = round_by_hand(exact, "even")
        same_kind(self, asked(self, banded, bands, coins), (tax, pair(exact - tax)))

    def test_by_hand(self):
        for coins, told in ((0, (0, (0, 1))), (999, (0, (0, 1))), (1000, (0, (0, 1))), (1001, (0, (1, 5))),
                            (1003, (1, (-2, 5))), (4999, (800, (-1, 5))), (5000, (800, (0, 1))), (5001, (800, (2, 5))),
                            (10000, (2800, (0, 1)))):
            same_kind(self, banded(PLAIN, coins), told)
        same_kind(self, banded(((0, 1, 2),), 5), (2, (1, 2)))
        same_kind(self, banded(((0, 1, 2),), 5, custom="far"), (3, (-1, 2)))
        same_kind(self, banded(((0, 1, 2),), 7), (4, (-1, 2)))
        same_kind(self, banded(((0, 1, 2),), 7, custom="down"), (3, (1, 2)))
        same_kind(self, banded(((0, 1, 3), (1, 1, 2)), 2, custom="up"), (1, (-1, 6)))

    def test_each(self):
        for bands in ALL + tuple(many_bands()):
            for coins in some_coins(bands):
                self.check(bands, coins)

    def test_coin_by_coin(self):
        for bands in (SIX, FALLING, GAPPED):
            exact = Fraction(0)
            for coins in range(1200):
                tax, rest = banded(bands, coins, custom="in")
                self.assertEqual(tax + Fraction(*rest), exact)
                exact += Fraction(*[band for band in bands if band[0] <= coins][-1][1:])

    def test_by_name(self):
        same_kind(self, asked(self, banded, custom="up", coins=1001, bands=PLAIN), (1, (-4, 5)))
        same_kind(self, asked(self, banded, coins=1001, bands=PLAIN), (0, (1, 5)))
        with self.assertRaises(TypeError):
            banded(PLAIN, 5, "even")


class Goals(unittest.TestCase):
    def check(self, bands, goal):
        told = asked(self, most_for, bands, goal)
        if told is None:
            # More coins never leave less, and above the last floor nothing more is left where a coin bears itself.
            self.assertEqual(bands[-1][1], bands[-1][2])
            self.assertLessEqual(left_by_hand(bands, bands[-1][0]), goal)
        else:
            self.assertIs(type(told), int)
            self.assertGreaterEqual(told, 0)
            self.assertLessEqual(left_by_hand(bands, told), goal)
            self.assertGreater(left_by_hand(bands, told + 1), goal)

    def test_by_hand(self):
        for goal, told in ((0, 0), (1, 1), (999, 999), (1000, 1000), (1001, 1001), (1004, 1005), (3000, 3500),
                           (4200, 5000), (4201, 5001), (4202, 5003)):
            same_kind(self, asked(self, most_for, PLAIN, goal), told)
        same_kind(self, most_for(FREE, 0), 0)
        same_kind(self, most_for(FREE, MOST), MOST)
        same_kind(self, most_for(((0, 999, 1000),), 0), 0)
        same_kind(self, most_for(((0, 999, 1000),), 1), 1000)
        same_kind(self, most_for(((0, 1, 2),), 0), 0)
        same_kind(self, most_for(((0, 1, 2),), 1), 2)
        same_kind(self, most_for(((0, 1, 1), (50, 0, 1)), 0), 50)
        same_kind(self, most_for(((0, 1, 1), (50, 0, 1)), 3), 53)

    def test_none(self):
        for goal in (0, 1, MOST):
            same_kind(self, asked(self, most_for, FULL, goal), None)
        # 100 leave 75, 300 leave 175, and so do all above
        for goal, told in ((0, 0), (74, 98), (75, 100), (174, 298), (175, None), (176, None), (MOST, None)):
            same_kind(self, asked(self, most_for, TOPPED, goal), told)
        # 3 of the first 5 are left where the tax is rounded down
        for goal, told in ((1, 2), (2, 4), (3, None)):
            same_kind(self, asked(self, most_for, ((0, 3, 6), (5, 2, 2)), goal), told)

    def test_one_by_one(self):
        for bands in (SIX, FALLING, TOPPED, GAPPED, PLAIN, *itertools.islice(many_bands(), 0, None, 3)):
            lefts = [left_by_hand(bands, coins) for coins in range(1300)]
            for goal in (*range(25), 74, 75, 100, 175, 400):
                right = [coins for coins, left in enumerate(lefts) if left <= goal]
                if right[-1] < 1299:
                    same_kind(self, asked(self, most_for, bands, goal), right[-1])
                self.check(bands, goal)

    def test_each(self):
        for bands in ALL + tuple(many_bands()):
            goals = {0, 1, 2, 999, 12345, MOST - 1, MOST}
            for floor, _, _ in bands:
                goals |= {left_by_hand(bands, floor) + more for more in (-1, 0, 1)}
            for goal in goals:
                if 0 <= goal <= MOST:
                    self.check(bands, goal)

    def test_far_floors(self):
        same_kind(self, most_for(((0, 1, 1), (THIRTY, 0, 1)), 5), THIRTY + 5)
        same_kind(self, most_for(((0, 1, 1), (THIRTY, 1, 2), (10 * THIRTY, 1, 1)), MOST), THIRTY + 2 * MOST)
        same_kind(self, most_for(((0, 0, 1), (THIRTY, 1, 1)), MOST), MOST)

    def test_by_name(self):
        same_kind(self, asked(self, most_for, goal=3000, bands=PLAIN), 3500)


class Refusals(unittest.TestCase):
    def test_no_bands(self):
        for thing in NO_BANDS:
            refused(self, NoBands, banded, thing, 5)
            refused(self, NoBands, most_for, thing, 5)

    def test_a_place_otherwise(self):
        for path in places(PLAIN):
            for new in (None, "", "0", [], {}, -1, ()) + TRUTHS:
                refused(self, NoBands, banded, put(PLAIN, path, new), 5)
                refused(self, NoBands, most_for, put(PLAIN, path, new), 5)
            if isinstance(part_at(PLAIN, path), tuple):
                refused(self, NoBands, banded, put(PLAIN, path, list(part_at(PLAIN, path))), 5)

    def test_bounds_of_bands(self):
        for bands in (((0, 0, 1),), ((0, 1, 1),), ((0, 1000, 1000),), ((0, 0, 1000),), ((0, 0, 1), (1, 0, 1)),
                      ((0, 0, 1), (THIRTY, 0, 1)), tuple((at, 6 - at, 6) for at in range(6))):
            banded(bands, 5)
            most_for(bands, 5)

    def test_no_coins(self):
        for thing in NEITHER + (-1, -THIRTY, "5", [5], (5,), {5: 5}):
            refused(self, NoCoins, banded, PLAIN, thing)
        banded(PLAIN, 0)

    def test_no_custom(self):
        for thing in NEITHER + ("Even", "even ", "odd", ["even"], ("even",), {"even": 1}, 0, 1):
            refused(self, NoCustom, banded, PLAIN, 5, custom=thing)

    def test_no_goal(self):
        for thing in NEITHER + (-1, MOST + 1, THIRTY, -THIRTY, "5", [5], (5,), {5: 5}):
            refused(self, NoGoal, most_for, PLAIN, thing)
            refused(self, NoGoal, most_for, FULL, thing)
        for goal in (0, MOST):
            most_for(PLAIN, goal)

    def test_the_one_further_to_the_left_first(self):
        for wrong in (None, True, (), [], {}, -1):
            refused(self, NoBands, banded, wrong, wrong, custom=wrong)
            refused(self, NoBands, banded, wrong, 5, custom=wrong)
            refused(self, NoCoins, banded, PLAIN, wrong, custom=wrong)
            refused(self, NoCoins, banded, custom="odd", coins=wrong, bands=PLAIN)
            refused(self, NoBands, most_for, wrong, wrong)
            refused(self, NoBands, most_for, goal=wrong, bands=wrong)


if __name__ == "__main__":
    unittest.main()

"""[41], [42] and [44], with [2] to [5] as far as they speak of roads."""

import itertools
import unittest
from fractions import Fraction

from coinlaw.errors import NoCoins, NoDay, NoRoad, NoRules
from coinlaw.fractions import is_fraction
from coinlaw.roads import along, between, is_along, least_apart, worth
from helpers import (
    CUSTOMS, NEITHER, NO_DAYS, NO_RULES, THIRTY, asked, no, otherwise, pair, rate_by_look, refused, round_by_hand,
    same_kind, yes,
)

CODES = ("aaa", "bbb", "ccc", "ddd", "eee")
CURRENCIES = tuple((code, 2, 1) for code in CODES)
RATES = (
    ("aaa", "bbb", 0, 3, 2), ("aaa", "bbb", 20, 7, 5), ("aaa", "ccc", 0, 1, 3), ("aaa", "ddd", 0, 100000, 99999),
    ("aaa", "eee", 10, 17, 4), ("bbb", "ccc", 0, 2, 9), ("bbb", "ddd", 0, 4, 6), ("ccc", "ddd", 0, 31, 10),
    ("ccc", "eee", 0, 50, 1), ("ddd", "eee", 5, 1, 1),
)
ROADS = (
    ("aaa", "bbb"), ("bbb", "aaa"), ("aaa", "ccc"), ("ddd", "aaa"), ("aaa", "bbb", "ccc"), ("ccc", "bbb", "aaa"),
    ("aaa", "bbb", "aaa"), ("eee", "ccc", "eee"), ("aaa", "bbb", "ccc", "ddd"), ("bbb", "ddd", "ccc", "bbb"),
    ("aaa", "ccc", "aaa", "ccc", "aaa"), ("aaa", "bbb", "ccc", "ddd", "aaa"),
    ("ddd", "ccc", "bbb", "aaa", "ddd", "bbb"), ("aaa", "bbb", "aaa", "bbb", "aaa", "bbb"),
    ("bbb", "aaa", "ddd", "ccc", "eee", "ccc"),
)
COINS = (0, 1, 2, 3, 5, 7, 10, 99, 1000, 12345, 10 ** 8, THIRTY, 10 ** 60 + 1)

NO_COINS = NEITHER + ("5", (5,), [5])
NO_ROADS = NEITHER + (
    ("aaa",), ("aaa", "bbb", "aaa", "bbb", "aaa", "bbb", "aaa"), ["aaa", "bbb"], "aaabbb", ("aaa", "aaa"),
    ("aaa", "bbb", "bbb"), ("aaa", "aaa", "bbb"), ("aaa", "zzz"), ("zzz", "aaa"), ("aaa", "bbb", "zzz"), ("zzz", "zzz"),
    ("bbb", "eee"), ("eee", "bbb"), ("aaa", "bbb", "eee"), ("ddd", "eee"), ("aaa", "ddd", "eee", "aaa"), ("aaa", "eee"),
    ("aaa", "BBB"), ("aaa", "bb"), ("aaa", None), (None, "aaa"), ("aaa", 1), (1, 2), ("aaa", ["bbb"]),
    ("aaa", ("bbb",)), (("aaa", "bbb"),), ("aaa", {}), ({"aaa": 1}, "bbb"), {"aaa": "bbb"}, ("aaa", True),
    ("aaa", "bbb", []), 0, 1, THIRTY,
)


def ruled(custom, rates=RATES):
    """Rules of one custom, or without any."""
    return (CURRENCIES, rates, (), () if custom is None else ((0, custom),))


RULED = ruled("even")
UNLIKE = (("bbb", "ccc"), ("aaa", "bbb", "ddd"), ("ccc", "aaa"))
ROAD = ("aaa", "bbb", "ccc")


def steps(road):
    return list(zip(road, road[1:]))


def by_hand(rules, day, coins, road, custom):
    """The paper, by another road than the program's."""
    rows = []
    for one, other in steps(road):
        exact = coins * rate_by_look(rules, day, one, other)
        told = round_by_hand(exact, custom)
        rows.append((one, other, coins, pair(exact), told, pair(exact - told)))
        coins = told
    return tuple(rows)


def worth_by_hand(rules, day, coins, road):
    product = Fraction(coins)
    for one, other in steps(road):
        product *= rate_by_look(rules, day, one, other)
    return product


def rests_by_hand(rules, day, road, paper):
    """The sum of each rest times all rates behind it."""
    return sum(worth_by_hand(rules, day, Fraction(*row[5]), road[at + 1:]) for at, row in enumerate(paper))


def both_signs():
    return [*COINS, *[-coins for coins in COINS if coins]]


def roads_alike():
    """Pairs of roads with the same ends."""
    more = ROADS + (("aaa", "ddd", "ccc"), ("aaa", "bbb", "ddd", "ccc"), ("aaa", "ddd", "bbb"), ("bbb", "ccc", "aaa"),
                    ("aaa", "ccc", "ddd"), ("aaa", "ddd"), ("bbb", "ccc"), ("ddd", "bbb"), ("aaa", "ccc", "bbb"))
    return [(one, two) for one in more for two in more if (one[0], one[-1]) == (two[0], two[-1])]


class Papers(unittest.TestCase):
    def test_one_by_hand(self):
        rules = ruled("even")
        same_kind(self, asked(self, along, rules, 0, 7, ("aaa", "bbb", "ccc")), (
            ("aaa", "bbb", 7, (21, 2), 10, (1, 2)), ("bbb", "ccc", 10, (20, 9), 2, (2, 9))))
        same_kind(self, asked(self, along, rules, 0, -7, ("aaa", "bbb")), (("aaa", "bbb", -7, (-21, 2), -10, (-1, 2)),))
        same_kind(self, asked(self, along, rules, 20, 7, ("aaa", "bbb")), (("aaa", "bbb", 7, (49, 5), 10, (-1, 5)),))
        same_kind(self, asked(self, along, ruled("up"), 0, 7, ("bbb", "aaa")),
                  (("bbb", "aaa", 7, (14, 3), 5, (-1, 3)),))
        same_kind(self, asked(self, along, rules, 0, 0, ("aaa", "ccc", "aaa")), (
            ("aaa", "ccc", 0, (0, 1), 0, (0, 1)), ("ccc", "aaa", 0, (0, 1), 0, (0, 1))))

    def test_each_road_and_custom(self):
        for custom in CUSTOMS + (None,):
            rules = ruled(custom)
            for road in ROADS:
                for coins in both_signs():
                    expected = by_hand(rules, 12, coins, road, custom or "even")
                    same_kind(self, asked(self, along, rules, 12, coins, road), expected)

    def test_the_custom_and_the_rates_of_the_day(self):
        rules = (CURRENCIES, RATES, (), ((0, "down"), (3, "up"), (20, "far"), (9999, "in")))
        for day, custom in ((0, "down"), (2, "down"), (3, "up"), (19, "up"), (20, "far"), (21, "far"), (9999, "in")):
            for coins in (1, 7, -7, 11):
                for road in (("aaa", "bbb"), ("bbb", "aaa", "bbb")):
                    expected = by_hand(rules, day, coins, road, custom)
                    same_kind(self, asked(self, along, rules, day, coins, road), expected)

    def test_told_and_rest_are_what_was_rounded(self):
        for road in ROADS:
            for coins in both_signs():
                paper = along(ruled("far"), 12, coins, road)
                self.assertEqual([row[:2] for row in paper], steps(road))
                held = coins
                for one, other, there, exact, told, rest in paper:
                    self.assertEqual(there, held)
                    self.assertTrue(is_fraction(exact) and is_fraction(rest))
                    self.assertEqual(told + Fraction(*rest), Fraction(*exact))
                    held = told

    def test_by_name(self):
        same_kind(self, asked(self, along, road=("aaa", "bbb"), coins=7, day=0, rules=ruled("up")),
                  (("aaa", "bbb", 7, (21, 2), 11, (-1, 2)),))
        yes(self, is_along, thing=(("aaa", "bbb", 7, (21, 2), 11, (-1, 2)),), road=("aaa", "bbb"), coins=7, day=0,
            rules=ruled("up"))
        no(self, is_along, thing=(), road=("aaa", "bbb"), coins=7, day=0, rules=ruled("up"))


class PapersOfAnything(unittest.TestCase):
    def test_the_paper(self):
        for custom in CUSTOMS + (None,):
            for road in ROADS:
                for coins in (0, 1, -1, 7, 12345, -12345, THIRTY):
                    rules = ruled(custom)
                    yes(self, is_along, rules, 12, coins, road, by_hand(rules, 12, coins, road, custom or "even"))

    def test_one_thing_otherwise(self):
        for road in ROADS:
            for coins in (0, 1, -7, 12345):
                rules = ruled("even")
                for thing in otherwise(along(rules, 12, coins, road)):
                    self.assertIs(is_along(rules, 12, coins, road, thing), False, (coins, road, thing))

    def test_nothing_handed_in_is_changed(self):
        for thing in otherwise(along(ruled("up"), 12, 7, ("aaa", "bbb", "ccc"))):
            no(self, is_along, ruled("up"), 12, 7, ("aaa", "bbb", "ccc"), thing)

    def test_papers_of_something_else(self):
        rules = ruled("even")
        right = (12, 7, ("aaa", "bbb", "ccc"))
        for day, coins, road in ((20, 7, right[2]), (12, 8, right[2]), (12, -7, right[2]), (12, 7, ("aaa", "ccc")),
                                 (12, 7, ("aaa", "bbb")), (12, 7, ("ccc", "bbb", "aaa")), (12, 7, right[2] + ("aaa",))):
            no(self, is_along, rules, *right, along(rules, day, coins, road))
        yes(self, is_along, rules, *right, along(ruled(None), *right))
        no(self, is_along, rules, *right, along(ruled("up"), *right))

    def test_fractions_out_of_least_terms(self):
        rules = ruled("even")
        paper = (("aaa", "bbb", 7, (21, 2), 10, (1, 2)),)
        yes(self, is_along, rules, 0, 7, ("aaa", "bbb"), paper)
        for exact, rest in (((42, 4), (1, 2)), ((21, 2), (2, 4)), ((-21, -2), (1, 2)), ((21, 2), (-1, -2))):
            no(self, is_along, rules, 0, 7, ("aaa", "bbb"), (("aaa", "bbb", 7, exact, 10, rest),))

    def test_truths(self):
        rules = ruled("even", (("aaa", "bbb", 0, 1, 1),))
        paper = (("aaa", "bbb", 1, (1, 1), 1, (0, 1)),)
        yes(self, is_along, rules, 0, 1, ("aaa", "bbb"), paper)
        for row in (("aaa", "bbb", True, (1, 1), 1, (0, 1)), ("aaa", "bbb", 1, (True, 1), 1, (0, 1)),
                    ("aaa", "bbb", 1, (1, True), 1, (0, 1)), ("aaa", "bbb", 1, (1, 1), True, (0, 1)),
                    ("aaa", "bbb", 1, (1, 1), 1, (False, 1)), ("aaa", "bbb", 1, (1, 1), 1, (0, True))):
            no(self, is_along, rules, 0, 1, ("aaa", "bbb"), (row,))

    def test_things_of_other_kinds(self):
        for thing in NEITHER + (0, 7, THIRTY):
            for road in ROADS:
                no(self, is_along, ruled("even"), 12, 7, road, thing)


class Worths(unittest.TestCase):
    def test_some_by_hand(self):
        rules = ruled("even")
        same_kind(self, asked(self, worth, rules, 0, 7, ("aaa", "bbb")), (21, 2))
        same_kind(self, asked(self, worth, rules, 20, 7, ("aaa", "bbb")), (49, 5))
        same_kind(self, asked(self, worth, rules, 0, 7, ("aaa", "bbb", "ccc")), (7, 3))
        same_kind(self, asked(self, worth, rules, 0, -7, ("aaa", "bbb", "aaa")), (-7, 1))
        same_kind(self, asked(self, worth, rules, 0, 0, ("aaa", "bbb", "aaa")), (0, 1))
        same_kind(self, asked(self, worth, road=("bbb", "aaa"), coins=7, day=0, rules=rules), (14, 3))

    def test_many(self):
        for custom in ("up", None):
            for road in ROADS:
                for coins in both_signs():
                    expected = pair(worth_by_hand(RULED, 12, coins, road))
                    same_kind(self, asked(self, worth, ruled(custom), 12, coins, road), expected)

    def test_it_is_the_end_and_each_rest_times_all_rates_behind(self):
        for custom in CUSTOMS:
            for road in ROADS:
                for coins in (0, 1, 7, -12345, THIRTY):
                    paper = along(ruled(custom), 12, coins, road)
                    whole = Fraction(*worth(ruled(custom), 12, coins, road))
                    self.assertEqual(whole - paper[-1][4], rests_by_hand(RULED, 12, road, paper))


class BetweenRoads(unittest.TestCase):
    def test_one_by_hand(self):
        # 7 to 10 to 2 by bbb, and to 7/3, 2: worths and ends alike
        rules = ruled("even")
        same_kind(self, asked(self, between, rules, 0, 7, ("aaa", "bbb", "ccc"), ("aaa", "ccc")), ((0, 1),) * 3)
        # 7 * 7/5 * 2/9 = 98/45, against 7/3
        same_kind(self, asked(self, between, rules, 20, 7, ("aaa", "bbb", "ccc"), ("aaa", "ccc")),
                  ((0, 1), (-7, 45), (-7, 45)))
        # 4 to 6, against 4 to 4/3, 2, to 9: the worths alike
        same_kind(self, asked(self, between, ruled("up"), 0, 4, ("aaa", "bbb"), ("aaa", "ccc", "bbb")),
                  ((-3, 1), (0, 1), (3, 1)))

    def test_many(self):
        for custom in CUSTOMS:
            rules = ruled(custom)
            for road, other in roads_alike():
                for coins in (0, 1, 7, 1000, -12345):
                    papers = [by_hand(rules, 12, coins, one, custom) for one in (road, other)]
                    ends = [Fraction(paper[-1][4]) for paper in papers]
                    worths = [worth_by_hand(rules, 12, coins, one) for one in (road, other)]
                    rests = [rests_by_hand(rules, 12, one, paper) for one, paper in zip((road, other), papers)]
                    told = asked(self, between, rules, 12, coins, road, other)
                    same_kind(self, told, tuple(pair(one - two) for one, two in (ends, worths, rests)))
                    difference, exact, roundings = [Fraction(*part) for part in told]
                    self.assertEqual(difference, exact - roundings)

    def test_by_name(self):
        same_kind(self, asked(self, between, other=("aaa", "ccc"), road=("aaa", "bbb", "ccc"), coins=7, day=20,
                              rules=ruled(None)), ((0, 1), (-7, 45), (-7, 45)))


class LeastApart(unittest.TestCase):
    def one_by_one(self, rules, day, road, other, most, custom):
        for coins in range(most + 1):
            ends = [by_hand(rules, day, coins, one, custom)[-1][4] for one in (road, other)]
            if ends[0] != ends[1]:
                return coins
        return None

    def test_one_by_one(self):
        for custom in CUSTOMS:
            for road, other in roads_alike():
                for most in (0, 1, 2, 3, 4, 9, 40):
                    expected = self.one_by_one(ruled(custom), 12, road, other, most, custom)
                    same_kind(self, asked(self, least_apart, ruled(custom), 12, road, other, most), expected)

    def test_the_bound_counts(self):
        # 1000/999 of the coins rounded down is one more at 999 first
        rules = ruled("down", (("aaa", "bbb", 0, 1, 1), ("aaa", "ccc", 0, 1000, 999), ("bbb", "ccc", 0, 1, 1)))
        roads = (("aaa", "bbb", "ccc"), ("aaa", "ccc"))
        for day in (0, 9999):
            for most, told in ((0, None), (1, None), (998, None), (999, 999), (1000, 999), (3000, 999)):
                same_kind(self, asked(self, least_apart, rules, day, *roads, most), told)
                same_kind(self, asked(self, least_apart, rules, day, *roads[::-1], most), told)

    def test_at_the_last_number(self):
        rules = ruled("down", (("aaa", "bbb", 0, 1, 1), ("aaa", "ccc", 0, 3001, 3000), ("bbb", "ccc", 0, 1, 1)))
        roads = (("aaa", "bbb", "ccc"), ("aaa", "ccc"))
        same_kind(self, asked(self, least_apart, rules, 0, *roads, 2999), None)
        same_kind(self, asked(self, least_apart, rules, 0, *roads, 3000), 3000)

    def test_never(self):
        for custom in CUSTOMS:
            same_kind(self, asked(self, least_apart, ruled(custom), 12, ("aaa", "bbb"), ("aaa", "bbb"), 3000), None)

    def test_worths_alike_but_not_the_coins(self):
        # there and back by a third of it
        rules = ruled("even")
        self.assertEqual(worth(rules, 0, 1, ("aaa", "ccc", "aaa", "bbb")), worth(rules, 0, 1, ("aaa", "bbb")))
        same_kind(self, least_apart(rules, 0, ("aaa", "ccc", "aaa", "bbb"), ("aaa", "bbb"), 3000), 1)

    def test_the_custom_of_the_day(self):
        rules = (CURRENCIES, (("aaa", "bbb", 0, 1, 3), ("aaa", "ccc", 0, 1, 1), ("bbb", "ccc", 0, 3, 1)), (),
                 ((0, "up"), (5, "down"), (6, "even")))
        for day, custom in ((0, "up"), (4, "up"), (5, "down"), (6, "even")):
            roads = (("aaa", "bbb", "ccc"), ("aaa", "ccc"))
            same_kind(self, least_apart(rules, day, *roads, 9), self.one_by_one(rules, day, *roads, 9, custom))

    def test_by_name(self):
        same_kind(self, asked(self, least_apart, most=9, other=("aaa", "bbb"), road=("aaa", "ccc", "aaa", "bbb"), day=0,
                              rules=ruled("even")), 1)


class Refusals(unittest.TestCase):
    def each(self, error, rules, day, coins, road):
        """Each function that takes one road, and both that take two."""
        refused(self, error, along, rules, day, coins, road)
        refused(self, error, is_along, rules, day, coins, road, ())
        refused(self, error, worth, rules, day, coins, road)
        refused(self, error, between, rules, day, coins, road, ROAD)

    def test_no_rules(self):
        for thing in NO_RULES:
            self.each(NoRules, thing, 0, 7, ROAD)
            refused(self, NoRules, least_apart, thing, 0, ROAD, ROAD, 9)

    def test_no_day(self):
        for thing in NO_DAYS:
            self.each(NoDay, RULED, thing, 7, ROAD)
            refused(self, NoDay, least_apart, RULED, thing, ROAD, ROAD, 9)

    def test_no_coins(self):
        for thing in NO_COINS:
            self.each(NoCoins, RULED, 0, thing, ROAD)
            refused(self, NoCoins, least_apart, RULED, 0, ROAD, ROAD, thing)
        for most in (-1, 3001, THIRTY, -THIRTY):
            refused(self, NoCoins, least_apart, RULED, 0, ROAD, ROAD, most)

    def test_no_road(self):
        for thing in NO_ROADS:
            self.each(NoRoad, RULED, 0, 7, thing)
            refused(self, NoRoad, between, RULED, 0, 7, ROAD, thing)
            refused(self, NoRoad, least_apart, RULED, 0, thing, ROAD, 9)
            refused(self, NoRoad, least_apart, RULED, 0, ROAD, thing, 9)
            refused(self, NoRoad, least_apart, RULED, 0, thing, thing, 9)

    def test_a_rate_that_stands_later(self):
        for road, since in ((("ddd", "eee"), 5), (("eee", "ddd"), 5), (("bbb", "aaa", "eee"), 10)):
            self.each(NoRoad, RULED, since - 1, 7, road)
            for day in (since, since + 1):
                along(RULED, day, 7, road)
                worth(RULED, day, 7, road)
                between(RULED, day, 7, road, road)
                least_apart(RULED, day, road, road, 3)
                self.assertIs(is_along(RULED, day, 7, road, ()), False)

    def test_bounds_of_roads(self):
        for road in (("aaa", "bbb"), ("aaa", "bbb") * 3):
            along(RULED, 0, 7, road)
        self.each(NoRoad, RULED, 0, 7, ("aaa", "bbb") * 3 + ("aaa",))
        self.each(NoRoad, RULED, 0, 7, ("aaa",))

    def test_unlike_ends(self):
        for other in UNLIKE:
            refused(self, NoRoad, between, RULED, 0, 7, ROAD, other)
            refused(self, NoRoad, between, RULED, 0, 7, other, ROAD)
            refused(self, NoRoad, least_apart, RULED, 0, ROAD, other, 9)
            refused(self, NoRoad, least_apart, RULED, 0, other, ROAD, 0)
        for one, two in itertools.permutations(UNLIKE, 2):
            refused(self, NoRoad, between, RULED, 0, 7, one, two)

    def test_unlike_ends_behind_all_else(self):
        for other in UNLIKE:
            refused(self, NoRules, between, None, 0, 7, ROAD, other)
            refused(self, NoDay, between, RULED, None, 7, ROAD, other)
            refused(self, NoCoins, between, RULED, 0, None, ROAD, other)
            refused(self, NoRules, least_apart, None, 0, ROAD, other, 9)
            refused(self, NoDay, least_apart, RULED, None, ROAD, other, 9)
            for most in (None, True, -1, 3001):
                refused(self, NoCoins, least_apart, RULED, 0, ROAD, other, most)

    def test_the_one_further_to_the_left_first(self):
        for wrong in (None, True, (), []):
            self.each(NoRules, wrong, wrong, wrong, wrong)
            self.each(NoDay, RULED, wrong, wrong, wrong)
            self.each(NoCoins, RULED, 0, wrong, wrong)
            refused(self, NoRules, between, wrong, wrong, wrong, wrong, wrong)
            refused(self, NoDay, between, RULED, 10000, wrong, wrong, wrong)
            refused(self, NoCoins, between, RULED, 0, wrong, ROAD, wrong)
            refused(self, NoRules, least_apart, wrong, wrong, wrong, wrong, wrong)
            refused(self, NoDay, least_apart, RULED, wrong, wrong, wrong, wrong)
            refused(self, NoRoad, least_apart, RULED, 0, wrong, wrong, wrong)
            refused(self, NoRoad, least_apart, RULED, 0, ROAD, wrong, 3001)
            refused(self, NoRoad, least_apart, RULED, 0, wrong, ROAD, -1)
            refused(self, NoRoad, least_apart, most=None, other=wrong, road=ROAD, day=0, rules=RULED)


if __name__ == "__main__":
    unittest.main()

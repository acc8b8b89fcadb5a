"""[43], with [2] to [5] as far as they speak of rings and prices."""

import itertools
import random
import unittest
from fractions import Fraction

from coinlaw.errors import NoDay, NoRules
from coinlaw.fractions import is_fraction
from coinlaw.rings import earns, shows
from helpers import (
    NEITHER, NO_DAYS, NO_RULES, THIRTY, TRUTHS, asked, no, otherwise, pair, put, rate_by_look, refused, same_kind, yes,
)

CODES = ("aaa", "bbb", "ccc", "ddd", "eee")


def ruled(rates, many=5):
    return (tuple((code, 2, 1) for code in CODES[:many]), tuple(sorted(rates)), (), ())


def codes_of(rules):
    return [row[0] for row in rules[0]]


def rings_that_earn(rules, day):
    """All rings that earn, by trying each."""
    found = []
    for many in range(3, 6):
        for codes in itertools.permutations(codes_of(rules), many):
            if gain(rules, day, codes + codes[:1]) > 1:
                found.append(codes + codes[:1])
    return found


def gain(rules, day, road):
    """All rates of a road multiplied, 0 where one does not stand."""
    product = Fraction(1)
    for one, other in zip(road, road[1:]):
        product *= rate_by_look(rules, day, one, other) or 0
    return product


def tied(rules, day):
    """For each code the least one that rates tie it to."""
    least = {code: code for code in codes_of(rules)}
    for again in least:
        for one, other in itertools.permutations(least, 2):
            if rate_by_look(rules, day, one, other) is not None:
                least[one] = min(least[one], least[other])
    return least


def are_right(rules, day, prices):
    """Whether prices, of as many Fractions as codes, above nought, are so by a look at all standing rates."""
    codes = codes_of(rules)
    for (one, price), (other, other_price) in itertools.permutations(zip(codes, prices), 2):
        standing = rate_by_look(rules, day, one, other)
        if standing is not None and price != standing * other_price:
            return False
    return True


def by_prices(prices, pairs):
    """Rows of rates by which a coin of each code is worth so much."""
    worths = dict(zip(CODES, prices))
    rows = []
    for one, other in pairs:
        top, bottom = pair(Fraction(worths[one]) / Fraction(worths[other]))
        rows.append((one, other, 0, top, bottom))
    return rows


PAIRS = tuple(itertools.combinations(CODES, 2))
# Rates by prices 1, 2/3, 5, 7/2, 1/9.
PRICES = (Fraction(1), Fraction(2, 3), Fraction(5), Fraction(7, 2), Fraction(1, 9))
FAIR = ruled(by_prices(PRICES, PAIRS))
CHAIN = ruled(by_prices(PRICES, (("aaa", "eee"), ("bbb", "eee"), ("bbb", "ddd"), ("ccc", "ddd"))))
APART = ruled(by_prices(PRICES, (("aaa", "ddd"), ("bbb", "eee"))))
EARNING = ruled((("aaa", "bbb", 0, 3, 2), ("aaa", "ccc", 0, 1, 2), ("bbb", "ccc", 0, 1, 3), ("bbb", "ccc", 5, 1, 2),
                 ("bbb", "ccc", 9, 1, 4), ("bbb", "ccc", 12, 3, 9)), 4)
# A ring of five alone, and it is the only one.
LONG = ruled((("aaa", "bbb", 0, 1, 1), ("bbb", "ccc", 0, 1, 1), ("ccc", "ddd", 0, 1, 1), ("ddd", "eee", 0, 1, 1),
              ("aaa", "eee", 0, 99999, 100000)))


def many_rules():
    """Rules of fair and of earning rates, of all ties and of few."""
    chance = random.Random(43)
    for turn in range(400):
        pairs = [codes for codes in PAIRS if chance.random() < (turn % 8 + 2) / 10]
        prices = [Fraction(chance.randint(1, 300), chance.randint(1, 300)) for _ in CODES]
        rows = by_prices(prices, pairs)
        if rows and turn % 2:
            for again in range(chance.randint(1, 2)):
                at = chance.randrange(len(rows))
                one, other, day, top, bottom = rows[at]
                rows[at] = (one, other, day, max(1, top + chance.choice((-1, 1))), bottom)
        yield ruled(rows)


class Earning(unittest.TestCase):
    def check(self, rules, day):
        """What is told is so by a look at all standing rates and all rings."""
        told = asked(self, earns, rules, day)
        self.assertEqual((type(told), len(told)), (tuple, 2))
        word, shown = told
        self.assertIs(type(shown), tuple)
        rings = rings_that_earn(rules, day)
        if rings:
            self.assertEqual(word, "ring", rules)
            self.assertIn(shown, rings)
        else:
            self.assertEqual(word, "prices", rules)
            self.assertEqual(len(shown), len(rules[0]))
            self.assertTrue(all(is_fraction(price) and price[0] > 0 for price in shown))
            self.assertTrue(are_right(rules, day, [Fraction(*price) for price in shown]), (rules, shown))
            least = tied(rules, day)
            for code, price in zip(codes_of(rules), shown):
                if least[code] == code:
                    same_kind(self, price, (1, 1))
        self.assertIs(shows(rules, day, told), True)
        return told

    def test_prices(self):
        same_kind(self, self.check(FAIR, 0), ("prices", tuple(pair(price) for price in PRICES)))
        same_kind(self, self.check(CHAIN, 0), ("prices", tuple(pair(price) for price in PRICES)))
        same_kind(self, self.check(APART, 0), ("prices", ((1, 1), (1, 1), (1, 1), (7, 2), (1, 6))))
        for many in range(1, 6):
            same_kind(self, self.check(ruled((), many), 0), ("prices", ((1, 1),) * many))
        same_kind(self, self.check(ruled((("aaa", "bbb", 0, 6, 4),), 2), 0), ("prices", ((1, 1), (2, 3))))

    def test_rings(self):
        for day in (0, 4, 12, 9999):
            same_kind(self, self.check(EARNING, day), ("prices", ((1, 1), (2, 3), (2, 1), (1, 1))))
        for day in (5, 8):
            word, ring = self.check(EARNING, day)
            self.assertIn("-".join(ring), ("aaa-bbb-ccc-aaa", "bbb-ccc-aaa-bbb", "ccc-aaa-bbb-ccc"))
        for day in (9, 11):
            word, ring = self.check(EARNING, day)
            self.assertIn("-".join(ring), ("aaa-ccc-bbb-aaa", "bbb-aaa-ccc-bbb", "ccc-bbb-aaa-ccc"))

    def test_the_longest_ring(self):
        word, ring = self.check(LONG, 0)
        self.assertEqual((word, len(ring)), ("ring", 6))

    def test_rates_that_stand_later(self):
        late = ruled((("aaa", "bbb", 3, 2, 1), ("aaa", "ccc", 4, 2, 1), ("bbb", "ccc", 5, 2, 1)), 3)
        same_kind(self, self.check(late, 2), ("prices", ((1, 1), (1, 1), (1, 1))))
        same_kind(self, self.check(late, 3), ("prices", ((1, 1), (1, 2), (1, 1))))
        same_kind(self, self.check(late, 4), ("prices", ((1, 1), (1, 2), (1, 2))))
        self.assertEqual(self.check(late, 5)[0], "ring")

    def test_each_currency_of_a_ring_in_any_part(self):
        # each three codes once tied by a ring that earns, both ways about, the others not tied
        for codes in itertools.combinations(CODES, 3):
            one, two, three = codes
            for top, bottom in ((100000, 99999), (99999, 100000)):
                rows = ((one, two, 0, 1, 1), (two, three, 0, 1, 1), (one, three, 0, top, bottom))
                word, ring = self.check(ruled(rows), 0)
                self.assertEqual((word, set(ring)), ("ring", set(codes)))

    def test_many(self):
        words = {self.check(rules, 0)[0] for rules in many_rules()}
        self.assertEqual(words, {"ring", "prices"})

    def test_by_name(self):
        told = asked(self, earns, day=0, rules=FAIR)
        yes(self, shows, thing=told, day=0, rules=FAIR)
        no(self, shows, thing=told, day=0, rules=EARNING)


class RingsOfAnything(unittest.TestCase):
    def test_begun_elsewhere(self):
        for rules, day in ((EARNING, 5), (EARNING, 9), (LONG, 0)):
            word, ring = earns(rules, day)
            for at in range(len(ring) - 1):
                moved = ring[at:-1] + ring[:at + 1]
                yes(self, shows, rules, day, ("ring", moved))
                no(self, shows, rules, day, ("ring", moved[::-1]))
                no(self, shows, rules, day, ("prices", moved))

    def test_each_road(self):
        for rules, day in ((EARNING, 5), (EARNING, 0), (ruled(EARNING[1], 3), 9)):
            earning = rings_that_earn(rules, day)
            for many in range(2, 6):
                for road in itertools.product(codes_of(rules), repeat=many):
                    self.assertIs(shows(rules, day, ("ring", road)), road in earning, road)

    def test_a_code_more_or_fewer(self):
        for rules, day in ((EARNING, 5), (LONG, 0)):
            word, ring = earns(rules, day)
            earning = rings_that_earn(rules, day)
            for at in range(len(ring)):
                self.assertNotIn(ring[:at] + ring[at + 1:], earning)
                no(self, shows, rules, day, ("ring", ring[:at] + ring[at + 1:]))
                for code in codes_of(rules) + ["zzz", "", None, 1, ["aaa"]]:
                    no(self, shows, rules, day, ("ring", ring[:at] + (code,) + ring[at:]))
            no(self, shows, rules, day, ("ring", ring + ring[1:]))
            no(self, shows, rules, day, ("ring", ring[:-1]))
            no(self, shows, rules, day, ("ring", list(ring)))

    def test_a_ring_twice_along(self):
        # it earns, but its codes stand twice
        rules = ruled((("aaa", "bbb", 0, 3, 1), ("aaa", "ccc", 0, 1, 1), ("bbb", "ccc", 0, 1, 1),
                       ("ccc", "ddd", 0, 1, 1)))
        yes(self, shows, rules, 0, ("ring", ("aaa", "bbb", "ccc", "aaa")))
        for road in (("aaa", "bbb", "ccc", "ddd", "ccc", "aaa"), ("ccc", "aaa", "bbb", "ccc", "ddd", "ccc"),
                     ("aaa", "bbb", "aaa", "bbb", "ccc", "aaa"), ("ccc", "ddd", "ccc", "aaa", "bbb", "ccc")):
            self.assertGreater(gain(rules, 0, road), 1)
            no(self, shows, rules, 0, ("ring", road))

    def test_a_road_that_gains_but_does_not_come_back(self):
        for road in (("aaa", "bbb"), ("aaa", "bbb", "ccc"), ("aaa", "bbb", "aaa"), ("aaa",), ()):
            no(self, shows, ruled((("aaa", "bbb", 0, 3, 1), ("bbb", "ccc", 0, 3, 1))), 0, ("ring", road))

    def test_a_ring_that_comes_to_just_1(self):
        for ring in itertools.permutations(CODES, 3):
            no(self, shows, FAIR, 0, ("ring", ring + ring[:1]))

    def test_otherwise(self):
        for rules, day in ((EARNING, 5), (LONG, 0)):
            told = earns(rules, day)
            earning = rings_that_earn(rules, day)
            for thing in otherwise(told):
                right = type(thing) is tuple and thing[:1] == ("ring",) and thing[1:] in [(ring,) for ring in earning]
                self.assertIs(asked(self, shows, rules, day, thing), right, thing)


class PricesOfAnything(unittest.TestCase):
    def show(self, prices):
        return ("prices", tuple(pair(Fraction(price)) for price in prices))

    def test_times_a_number(self):
        for rules in (FAIR, CHAIN):
            for number in (1, 2, 3, Fraction(1, 7), Fraction(99, 100), THIRTY, Fraction(1, THIRTY), 10 ** 60):
                yes(self, shows, rules, 0, self.show([price * number for price in PRICES]))
            for number in (0, -1, -2, Fraction(-1, 3)):
                no(self, shows, rules, 0, self.show([price * number for price in PRICES]))

    def test_currencies_that_are_not_tied(self):
        for one, two, three in ((1, 1, 1), (1, 5, 9), (Fraction(2, 3), 1, 1), (7, 7, Fraction(1, 8)), (1, 1, THIRTY)):
            prices = (one, two, three, Fraction(7, 2) * one, Fraction(1, 6) * two)
            yes(self, shows, APART, 0, self.show(prices))
            for at in range(5):
                for number in (0, -1):
                    no(self, shows, APART, 0, self.show(prices[:at] + (number,) + prices[at + 1:]))
                if at != 2:
                    no(self, shows, APART, 0, self.show(prices[:at] + (prices[at] * 2,) + prices[at + 1:]))

    def test_all_below_nought(self):
        no(self, shows, ruled((), 2), 0, ("prices", ((-1, 1), (-1, 1))))
        no(self, shows, ruled((), 2), 0, ("prices", ((1, 1), (0, 1))))
        no(self, shows, ruled((), 2), 0, ("prices", ((0, 1), (0, 1))))
        yes(self, shows, ruled((), 2), 0, ("prices", ((1, 100), (100, 1))))

    def test_out_of_least_terms(self):
        right = self.show(PRICES)
        yes(self, shows, FAIR, 0, right)
        for at, (top, bottom) in enumerate(right[1]):
            for new in ((2 * top, 2 * bottom), (-top, -bottom), (THIRTY * top, THIRTY * bottom), (-top, bottom), (0, 1),
                        (top, 0), (top, bottom, 1), (top,), top, [top, bottom], None, str(top), (top, None)):
                no(self, shows, FAIR, 0, put(right, (1, at), new))

    def test_one_more_and_one_fewer(self):
        right = self.show(PRICES)[1]
        for at in range(5):
            no(self, shows, FAIR, 0, ("prices", right[:at] + right[at + 1:]))
            no(self, shows, FAIR, 0, ("prices", right[:at + 1] + right[at:]))
            no(self, shows, FAIR, 0, ("prices", right[:at] + ((1, 1),) + right[at:]))
        no(self, shows, FAIR, 0, ("prices", right[::-1]))
        no(self, shows, FAIR, 0, ("prices", list(right)))
        no(self, shows, FAIR, 0, ("prices", dict(zip(CODES, right))))
        no(self, shows, FAIR, 0, ["prices", right])

    def test_truths(self):
        rules = ruled((("aaa", "bbb", 0, 1, 1),), 2)
        yes(self, shows, rules, 0, ("prices", ((1, 1), (1, 1))))
        for prices in (((True, 1), (1, 1)), ((1, True), (1, 1)), ((1, 1), (True, 1)), ((1, 1), (1, True)), TRUTHS):
            no(self, shows, rules, 0, ("prices", prices))

    def test_otherwise(self):
        for rules in (FAIR, CHAIN):
            for thing in otherwise(self.show(PRICES)):
                no(self, shows, rules, 0, thing)

    def test_each_rate_counts(self):
        # prices that are right by all rates but one
        for at, (one, other) in enumerate(PAIRS):
            rows = list(FAIR[1])
            rows[at] = rows[at][:3] + (rows[at][3] + 1,) + rows[at][4:]
            no(self, shows, ruled(rows), 0, self.show(PRICES))
            yes(self, shows, ruled(rows[:at] + rows[at + 1:]), 0, self.show(PRICES))

    def test_by_a_look(self):
        for rules in itertools.islice(many_rules(), 0, None, 5):
            for prices in ((1,) * 5, (1, 2, 3, 4, 5), PRICES):
                right = are_right(rules, 0, [Fraction(price) for price in prices])
                self.assertIs(asked(self, shows, rules, 0, self.show(prices)), right)

    def test_no_prices_where_rates_earn(self):
        no(self, shows, EARNING, 5, earns(EARNING, 0))
        no(self, shows, EARNING, 0, earns(EARNING, 5))
        yes(self, shows, EARNING, 12, earns(EARNING, 0))

    def test_things_of_other_kinds(self):
        for thing in NEITHER + (0, 1, THIRTY, "ring", "prices", ("ring",), ("prices",), ("ring", None),
                                ("prices", None), ("ring", ()), ("prices", ()), (None, None), ([], []), ({}, {})):
            for rules in (FAIR, EARNING, ruled((), 1)):
                no(self, shows, rules, 5, thing)
        for word in ("", "Prices", "rings", None, 1, ["prices"], ("prices",), True):
            no(self, shows, FAIR, 0, (word, self.show(PRICES)[1]))
            no(self, shows, EARNING, 5, (word, earns(EARNING, 5)[1]))


class Refusals(unittest.TestCase):
    def test_no_rules(self):
        for thing in NO_RULES:
            refused(self, NoRules, earns, thing, 0)
            refused(self, NoRules, shows, thing, 0, ("prices", ((1, 1),)))

    def test_no_day(self):
        for thing in NO_DAYS:
            refused(self, NoDay, earns, FAIR, thing)
            refused(self, NoDay, shows, FAIR, thing, ("prices", ((1, 1),)))
        for day in (0, 9999):
            earns(FAIR, day)
            shows(FAIR, day, None)

    def test_the_one_further_to_the_left_first(self):
        for wrong in (None, True, (), [], 10000):
            refused(self, NoRules, earns, wrong, wrong)
            refused(self, NoRules, shows, wrong, wrong, wrong)
            refused(self, NoDay, shows, FAIR, 10000, wrong)
            refused(self, NoDay, shows, thing=wrong, day=-1, rules=FAIR)


if __name__ == "__main__":
    unittest.main()

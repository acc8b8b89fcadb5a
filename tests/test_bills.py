"""[50], with [2] to [5] as far as they speak of bills."""

import random
import unittest
from fractions import Fraction

from coinlaw.bills import billed
from coinlaw.errors import NoBill, NoPer, NoRules
from coinlaw.fractions import is_fraction
from helpers import (
    CUSTOMS, NEITHER, NO_DAYS, NO_RULES, THIRTY, TRUTHS, asked, pair, part_at, places, put, refused, round_by_hand,
    same_kind,
)

CURRENCIES = (("eur", 2, 1), ("jpy", 0, 5))
TAXES = (
    ("book", 0, 7, 100, "within"), ("book", 10, 7, 100, "on"), ("book", 20, 0, 1, "within"),
    ("food", 0, 5, 100, "on"), ("food", 30, 1, 3, "within"), ("gold", 0, 1000, 1000, "on"),
    ("late", 50, 1, 8, "on"), ("rent", 0, 0, 1000, "on"), ("shoe", 0, 1, 2, "on"), ("wine", 0, 19, 100, "within"),
    ("wine", 40, 1, 1, "within"), ("zinc", 9999, 2, 4, "on"),
)
MOST = 10000000
PERS = ("line", "sum")

NO_LINES = NEITHER + (
    ("food", 1), ("food", 1, 1, 1), ["food", 1, 1], ("none", 1, 1), ("late", 1, 1), ("Food", 1, 1), ("", 1, 1),
    (None, 1, 1), (["food"], 1, 1), (("food",), 1, 1), ({}, 1, 1), (1, 1, 1), (True, 1, 1), ("eur", 1, 1),
    ("food", -1, 1), ("food", MOST + 1, 1), ("food", THIRTY, 1), ("food", True, 1), ("food", None, 1), ("food", "1", 1),
    ("food", [1], 1), ("food", 1, 0), ("food", 1, -1), ("food", 1, 100), ("food", 1, THIRTY), ("food", 1, True),
    ("food", 1, None), ("food", 1, "1"), ("food", 1, (1,)), "food", 0, 1,
)


def ruled(custom=None, taxes=TAXES):
    return (CURRENCIES, (), taxes, () if custom is None else ((0, custom),))


def tax_by_look(rules, day, sort):
    """(part, way) of the latest row of the sort by the day."""
    best = None
    for name, since, top, bottom, way in rules[2]:
        if name == sort and since <= day and (best is None or since > best[0]):
            best = (since, Fraction(top, bottom), way)
    return best[1:]


def exact_tax(rules, day, line):
    """The exact tax of a line, and whether its coins are without it."""
    part, way = tax_by_look(rules, day, line[0])
    coins = line[1] * line[2]
    # within: the tax is part times (coins less the tax)
    return (coins * part, True) if way == "on" else (coins - coins / (1 + part), False)


def by_hand(rules, bill, per, custom):
    """What is billed, by another road than the program's."""
    day, code, lines = bill
    rows = []
    for sort in sorted({line[0] for line in lines}):
        own = [line for line in lines if line[0] == sort]
        exacts = [exact_tax(rules, day, line)[0] for line in own]
        tax = sum(round_by_hand(exact, custom) for exact in exacts) if per == "line" else (
            round_by_hand(sum(exacts), custom))
        lined = sum(coins * many for name, coins, many in own)
        bare = lined if exact_tax(rules, day, own[0])[1] else lined - tax
        rows.append((sort, bare, tax, bare + tax, pair(sum(exacts) - tax)))
    return tuple(rows), *[sum(row[at] for row in rows) for at in (1, 2, 3)]


def many_bills():
    """Bills of one to eight lines, of few sorts and many, at the days of rows, ahead of them and behind."""
    chance = random.Random(50)
    for turn in range(400):
        day = chance.choice((0, 9, 10, 11, 19, 20, 21, 29, 30, 39, 40, 41, 9998, 9999))
        sorts = sorted({row[0] for row in TAXES if row[1] <= day})
        sorts = chance.sample(sorts, chance.randint(1, len(sorts)))
        coins = (0, 1, 5, 50, chance.randint(0, 99), chance.randint(0, 9999), chance.randint(0, MOST), MOST)
        lines = [(chance.choice(sorts), chance.choice(coins), chance.choice((1, 1, 2, 3, 7, 99)))
                 for _ in range(turn % 8 + 1)]
        yield day, chance.choice(("eur", "jpy")), tuple(lines)


class Bills(unittest.TestCase):
    def check(self, rules, bill, custom):
        for per in PERS:
            expected = by_hand(rules, bill, per, custom)
            same_kind(self, asked(self, billed, rules, bill, per=per), expected)
        same_kind(self, asked(self, billed, rules, bill), by_hand(rules, bill, "line", custom))

    def test_on(self):
        rules = ruled("far")
        bill = (0, "eur", (("food", 110, 1), ("food", 110, 1), ("food", 110, 1)))
        # 5.5 each, 6 by far; together 16.5, 17
        same_kind(self, billed(rules, bill), ((("food", 330, 18, 348, (-3, 2)),), 330, 18, 348))
        same_kind(self, billed(rules, bill, per="line"), ((("food", 330, 18, 348, (-3, 2)),), 330, 18, 348))
        same_kind(self, billed(rules, bill, per="sum"), ((("food", 330, 17, 347, (-1, 2)),), 330, 17, 347))
        # a line of three is one line
        bill = (0, "eur", (("food", 110, 3),))
        for per in PERS:
            same_kind(self, billed(rules, bill, per=per), ((("food", 330, 17, 347, (-1, 2)),), 330, 17, 347))

    def test_within(self):
        rules = ruled("even")
        # 119 with 19 of 100 in it
        bill = (0, "jpy", (("wine", 119, 1),))
        same_kind(self, billed(rules, bill), ((("wine", 100, 19, 119, (0, 1)),), 100, 19, 119))
        # 100 with 1900/119, that is 15 and 115/119
        bill = (0, "jpy", (("wine", 100, 1), ("wine", 100, 1)))
        same_kind(self, billed(rules, bill), ((("wine", 168, 32, 200, (-8, 119)),), 168, 32, 200))
        # the whole once more in it, at a part of 1
        bill = (40, "jpy", (("wine", 5, 1), ("wine", 5, 1)))
        same_kind(self, billed(rules, bill), ((("wine", 6, 4, 10, (1, 1)),), 6, 4, 10))
        same_kind(self, billed(rules, bill, per="sum"), ((("wine", 5, 5, 10, (0, 1)),), 5, 5, 10))

    def test_rows_rise_by_sort(self):
        bill = (0, "eur", (("wine", 119, 1), ("food", 100, 2), ("gold", 1, 1), ("wine", 0, 1), ("food", 1, 1)))
        for per in PERS:
            told = billed(ruled("down"), bill, per=per)
            same_kind(self, told, ((
                ("food", 201, 10, 211, (1, 20)), ("gold", 1, 1, 2, (0, 1)), ("wine", 100, 19, 119, (0, 1)),
            ), 302, 30, 332))

    def test_the_latest_row_by_the_day(self):
        for day, way, tax in ((0, "within", 7), (9, "within", 7), (10, "on", 7), (19, "on", 7), (20, "within", 0),
                              (9999, "within", 0)):
            bare, whole = (107, 107 + tax) if way == "on" else (107 - tax, 107)
            same_kind(self, billed(ruled("down"), (day, "eur", (("book", 107, 1),))),
                      ((("book", bare, tax, whole, (49, 100) if way == "on" else (0, 1)),), bare, tax, whole))

    def test_the_custom_of_the_day(self):
        rules = (CURRENCIES, (), TAXES, ((0, "down"), (3, "up"), (9, "even"), (12, "far"), (9999, "in")))
        for day, custom in ((0, "down"), (2, "down"), (3, "up"), (8, "up"), (9, "even"), (12, "far"), (9999, "in")):
            self.check(rules, (day, "eur", (("shoe", 5, 1), ("shoe", 3, 1), ("food", 30, 1), ("wine", 10, 7))), custom)

    def test_each_custom(self):
        for custom in CUSTOMS:
            for coins in (0, 1, 2, 3, 5, 49, 50, 51, 99999, MOST):
                for many in (1, 2, 99):
                    for sort in ("book", "food", "gold", "rent", "shoe", "wine"):
                        self.check(ruled(custom), (0, "eur", ((sort, coins, many), (sort, 7, 1))), custom)

    def test_many(self):
        for at, bill in enumerate(many_bills()):
            custom = CUSTOMS[at % 6]
            self.check(ruled(custom), bill, custom)
            self.check(ruled(), bill, "even")

    def test_bare_and_tax_are_whole(self):
        for bill in many_bills():
            for per in PERS:
                rows, bare, tax, whole = billed(ruled("out"), bill, per=per)
                self.assertEqual(bare + tax, whole)
                for at, total in ((1, bare), (2, tax), (3, whole)):
                    self.assertEqual(sum(row[at] for row in rows), total)
                for sort, row_bare, row_tax, row_whole, rest in rows:
                    self.assertEqual(row_bare + row_tax, row_whole)
                    self.assertTrue(is_fraction(rest))
                    exacts = [exact_tax(ruled(), bill[0], line)[0] for line in bill[2] if line[0] == sort]
                    self.assertEqual(row_tax + Fraction(*rest), sum(exacts))

    def test_by_name(self):
        bill = (0, "eur", (("food", 110, 1),) * 3)
        same_kind(self, asked(self, billed, per="sum", bill=bill, rules=ruled("far"))[1:], (330, 17, 347))
        same_kind(self, asked(self, billed, bill=bill, rules=ruled("far"))[1:], (330, 18, 348))
        with self.assertRaises(TypeError):
            billed(ruled(), bill, "line")


class Refusals(unittest.TestCase):
    def wrong(self, bill):
        refused(self, NoBill, billed, ruled(), bill)

    def test_no_rules(self):
        for thing in NO_RULES:
            refused(self, NoRules, billed, thing, (0, "eur", (("food", 1, 1),)))

    def test_no_bill(self):
        line = ("food", 1, 1)
        for thing in NEITHER + (0, "bill", (0, "eur"), (0, "eur", (line,), 0), [0, "eur", (line,)], ("eur", 0, (line,)),
                                (0, (line,)), (0, "eur", ()), (0, "eur", [line]), (0, "eur", line), (0, "eur", None),
                                (0, "eur", (line,) * 9), (0, "eur", {0: line}), {"day": 0}):
            self.wrong(thing)

    def test_no_day_in_it(self):
        for thing in NO_DAYS:
            self.wrong((thing, "eur", (("food", 1, 1),)))

    def test_no_code_in_it(self):
        for thing in NEITHER + ("usd", "EUR", "eu", "eurr", ["eur"], ("eur",), {"eur": 1}, 0, "food"):
            self.wrong((0, thing, (("food", 1, 1),)))

    def test_no_line_in_it(self):
        for thing in NO_LINES:
            self.wrong((0, "eur", (thing,)))
            self.wrong((0, "eur", (("food", 1, 1), thing)))
            self.wrong((0, "eur", (thing,) + (("food", 1, 1),) * 7))

    def test_a_sort_that_is_taxed_later(self):
        for sort, since in (("late", 50), ("zinc", 9999)):
            self.wrong((since - 1, "eur", ((sort, 1, 1),)))
            self.wrong((since - 1, "eur", (("food", 1, 1), (sort, 1, 1))))
            for day in (since, 9999):
                billed(ruled(), (day, "eur", ((sort, 1, 1),)))
        refused(self, NoBill, billed, ruled(None, ()), (0, "eur", (("food", 1, 1),)))

    def test_a_place_otherwise(self):
        bill = (0, "eur", (("food", 1, 1), ("wine", 5, 2)))
        billed(ruled(), bill)
        for path in places(bill):
            for new in (None, "", "other", [], {}, -1, THIRTY, ()) + TRUTHS:
                self.wrong(put(bill, path, new))
            if isinstance(part_at(bill, path), tuple):
                self.wrong(put(bill, path, list(part_at(bill, path))))

    def test_bounds(self):
        for line in (("food", 0, 1), ("food", MOST, 1), ("food", 0, 99), ("food", MOST, 99)):
            for many in (1, 8):
                for day in (0, 9999):
                    billed(ruled(), (day, "jpy", (line,) * many))

    def test_no_per(self):
        bill = (0, "eur", (("food", 1, 1),))
        for thing in NEITHER + ("Line", "line ", "lines", "row", ["line"], ("line",), ("line", "sum"), {}, 0, 1):
            refused(self, NoPer, billed, ruled(), bill, per=thing)

    def test_the_one_further_to_the_left_first(self):
        for wrong in (None, True, (), [], {}):
            refused(self, NoRules, billed, wrong, wrong, per=wrong)
            refused(self, NoRules, billed, wrong, (0, "eur", (("food", 1, 1),)), per=wrong)
            refused(self, NoBill, billed, ruled(), wrong, per=wrong)
            refused(self, NoBill, billed, per=wrong, bill=(0, "eur", (("late", 1, 1),)), rules=ruled())


if __name__ == "__main__":
    unittest.main()

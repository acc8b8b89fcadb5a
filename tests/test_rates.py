"""[40], with [2] to [5] as far as they speak of rates."""

import itertools
import unittest
from fractions import Fraction

from coinlaw.errors import NoCode, NoDay, NoRules
from coinlaw.fractions import is_fraction
from coinlaw.rates import rate
from helpers import NEITHER, NO_DAYS, NO_RULES, THIRTY, TRUTHS, asked, pair, rate_by_look, refused, same_kind

CURRENCIES = (("aaa", 2, 1), ("bbb", 0, 5), ("ccc", 3, 10), ("ddd", 2, 1))
CODES = ("aaa", "bbb", "ccc", "ddd")
ROWS = (
    ("aaa", "bbb", 0, 3, 2), ("aaa", "bbb", 10, 4, 2), ("aaa", "bbb", 11, 100000, 1),
    ("aaa", "ccc", 5, 1, 100000), ("bbb", "ccc", 9999, 99999, 100000), ("bbb", "ddd", 7, 6, 6),
)
RULES = (CURRENCIES, ROWS, (), ())

# one, other, then (day, rate) rows.
TOLD = (
    ("aaa", "bbb", ((0, (3, 2)), (1, (3, 2)), (9, (3, 2)), (10, (2, 1)), (11, (100000, 1)), (9999, (100000, 1)))),
    ("bbb", "aaa", ((0, (2, 3)), (9, (2, 3)), (10, (1, 2)), (11, (1, 100000)), (9999, (1, 100000)))),
    ("aaa", "ccc", ((0, None), (4, None), (5, (1, 100000)), (6, (1, 100000)), (9999, (1, 100000)))),
    ("ccc", "aaa", ((0, None), (4, None), (5, (100000, 1)), (6, (100000, 1)), (9999, (100000, 1)))),
    ("bbb", "ccc", ((0, None), (9998, None), (9999, (99999, 100000)))),
    ("ccc", "bbb", ((0, None), (9998, None), (9999, (100000, 99999)))),
    ("bbb", "ddd", ((6, None), (7, (1, 1)), (8, (1, 1)))),
    ("ddd", "bbb", ((6, None), (7, (1, 1)), (8, (1, 1)))),
    ("aaa", "ddd", ((0, None), (9999, None))),
    ("ddd", "ccc", ((0, None), (9999, None))),
    ("aaa", "aaa", ((0, (1, 1)), (9999, (1, 1)))),
    ("ddd", "ddd", ((0, (1, 1)), (9999, (1, 1)))),
)

NO_CODES = NEITHER + ("eee", "aa", "aaaa", "AAA", "aaa ", " aaa", "aab", ("aaa",), ["aaa"], {"aaa": 1}, 0, 1, THIRTY)


class Rates(unittest.TestCase):
    def test_rates(self):
        for one, other, rows in TOLD:
            for day, told in rows:
                with self.subTest(one=one, other=other, day=day):
                    same_kind(self, asked(self, rate, RULES, day, one, other), told)

    def test_many_days(self):
        for day in (*range(30), 9997, 9998, 9999):
            for one, other in itertools.product(CODES, repeat=2):
                told = asked(self, rate, RULES, day, one, other)
                looked = rate_by_look(RULES, day, one, other)
                same_kind(self, told, None if looked is None else pair(looked))
                if told is not None:
                    self.assertTrue(is_fraction(told))
                    same_kind(self, rate(RULES, day, other, one), (told[1], told[0]))

    def test_without_rows(self):
        for one, other in itertools.product(CODES, repeat=2):
            expected = (1, 1) if one == other else None
            same_kind(self, asked(self, rate, (CURRENCIES, (), (), ()), 9999, one, other), expected)

    def test_other_currencies_do_not_turn_it(self):
        for at in range(len(ROWS)):
            rules = (CURRENCIES, ROWS[at:at + 1], (), ((0, "up"),))
            one, other, since, top, bottom = ROWS[at]
            for pair_of_codes in itertools.permutations(CODES, 2):
                told = rate(rules, since, *pair_of_codes)
                if pair_of_codes == (one, other):
                    same_kind(self, told, pair(Fraction(top, bottom)))
                elif pair_of_codes == (other, one):
                    same_kind(self, told, pair(Fraction(bottom, top)))
                else:
                    self.assertIsNone(told)

    def test_by_name(self):
        same_kind(self, asked(self, rate, other="bbb", one="aaa", day=3, rules=RULES), (3, 2))
        same_kind(self, asked(self, rate, other="aaa", one="bbb", day=3, rules=RULES), (2, 3))


class Refusals(unittest.TestCase):
    def test_no_rules(self):
        for thing in NO_RULES + (list(RULES), RULES[:3], RULES + ((),), (RULES,)):
            refused(self, NoRules, rate, thing, 0, "aaa", "bbb")

    def test_no_day(self):
        for thing in NO_DAYS:
            refused(self, NoDay, rate, RULES, thing, "aaa", "bbb")

    def test_no_code(self):
        for thing in NO_CODES:
            refused(self, NoCode, rate, RULES, 0, thing, "aaa")
            refused(self, NoCode, rate, RULES, 0, "aaa", thing)
            refused(self, NoCode, rate, RULES, 0, thing, thing)

    def test_bounds(self):
        for day in (0, 9999):
            rate(RULES, day, "aaa", "bbb")

    def test_the_one_further_to_the_left_first(self):
        for truth in TRUTHS:
            refused(self, NoRules, rate, truth, truth, truth, truth)
            refused(self, NoRules, rate, (), 0, "eee", "aaa")
            refused(self, NoRules, rate, (), 10000, "aaa", "bbb")
            refused(self, NoDay, rate, RULES, truth, "eee", truth)
            refused(self, NoDay, rate, RULES, 10000, "aaa", None)
            refused(self, NoDay, rate, one=None, other=None, rules=RULES, day=-1)


if __name__ == "__main__":
    unittest.main()

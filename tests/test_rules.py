"""[11], with [2], [3] as far as they speak of rules."""

import unittest

from coinlaw.rules import are_rules
from helpers import NEITHER, THIRTY, TRUTHS, asked, part_at, places, put

CURRENCIES = (("chf", 2, 5), ("eur", 2, 1), ("jpy", 0, 100), ("tnd", 3, 10))
RATES = (
    ("chf", "eur", 0, 21, 20), ("chf", "eur", 400, 1, 1), ("chf", "jpy", 7, 100000, 1), ("eur", "jpy", 0, 160, 1),
    ("eur", "tnd", 9999, 1, 100000),
)
TAXES = (
    ("a", 0, 0, 1, "on"), ("books", 0, 7, 100, "within"), ("books", 90, 5, 100, "on"),
    ("zzzzzzzz", 9999, 1000, 1000, "on"),
)
CUSTOMS = ((0, "even"), (30, "far"), (9999, "down"))
FULL = (CURRENCIES, RATES, TAXES, CUSTOMS)
# One row in each, so that no other row can be what a change is refused for.
SMALL = ((("abc", 1, 1), ("abd", 1, 1)), (("abc", "abd", 1, 1, 1),), (("tax", 1, 1, 2, "on"),), ((0, "up"),))

NO_WORDS = (
    "", "A", "aB", "a b", "a1", " ", "a_", "abcdefghi", "a\n", "\ta", "{", "`", None, 1, 0, True, ["a"], ("a",), {},
)
NO_CODES = (
    "", "ab", "abcd", "ABC", "abC", "ab1", "a b", "ab\n", "ab{", "ab`", None, 1, True, ["abc"], ("abc",), {"abc": 1},
)
NO_WAYS = ("", "On", "off", "with", "in", "within ", None, 0, True, ["on"], ("on",), {"on": 1})
NO_CUSTOMS = ("", "Even", "odd", "near", "even ", None, 0, True, ["even"], ("even",), {"even": 1})
NO_NUMBERS = (None, "1", "", [1], (1,), {}, {1: 1}) + TRUTHS


def letters(number):
    return chr(97 + number // 26) + chr(97 + number % 26)


def with_rates(rates):
    return (CURRENCIES, rates, TAXES, CUSTOMS)


def with_taxes(taxes):
    return (CURRENCIES, RATES, taxes, CUSTOMS)


def with_customs(customs):
    return (CURRENCIES, RATES, TAXES, customs)


class Rules(unittest.TestCase):
    def yes(self, thing):
        self.assertIs(asked(self, are_rules, thing), True, repr(thing)[:300])

    def no(self, thing):
        self.assertIs(asked(self, are_rules, thing), False, repr(thing)[:300])

    def test_rules(self):
        self.yes(FULL)
        self.yes(SMALL)
        for many in range(1, 6):
            self.yes((tuple(("c" + letters(at), at % 4, 1 + at) for at in range(many)), (), (), ()))
        for shut in range(8):
            self.yes((CURRENCIES,) + tuple(part if shut >> at & 1 else () for at, part in enumerate(FULL[1:])))

    def test_by_name(self):
        self.assertIs(asked(self, are_rules, thing=FULL), True)
        self.assertIs(asked(self, are_rules, thing=()), False)

    def test_things_of_other_kinds(self):
        for thing in NEITHER + (0, 1, -1, THIRTY, "rules"):
            self.no(thing)
        self.no(((), (), (), ()))
        self.no(list(FULL))
        self.no(FULL[:3])
        self.no(FULL + ((),))
        self.no(dict(enumerate(FULL)))

    def test_things_of_other_kinds_at_each_place(self):
        for rules in (FULL, SMALL):
            for path in places(rules):
                for thing in (None, True, False, "", [], {}, -1, THIRTY, -THIRTY, ["abc"], {"abc": 0}, ((),)):
                    self.no(put(rules, path, thing))

    def test_a_truth_is_no_number_at_any_place(self):
        for rules in (FULL, SMALL):
            for path in places(rules):
                if isinstance(part_at(rules, path), int):
                    for truth in TRUTHS:
                        self.no(put(rules, path, truth))

    def test_a_list_is_no_tuple_at_any_depth(self):
        for rules in (FULL, SMALL):
            for path in places(rules):
                part = part_at(rules, path)
                if isinstance(part, tuple):
                    self.no(put(rules, path, list(part)))
                    self.no(put(rules, path, dict(enumerate(part))))
        for at in range(1, 4):
            self.no(put(FULL, (at,), []))

    def test_a_row_with_a_part_more_or_fewer(self):
        for path in places(FULL):
            if len(path) == 2:
                row = part_at(FULL, path)
                for other in (row[:-1], row[1:], row + (1,), row + (row[-1],), (row[0],) + row, (), row[:1], (row,)):
                    self.no(put(FULL, path, other))

    def test_a_row_twice(self):
        for at, rows in enumerate(FULL):
            for place in range(len(rows)):
                self.no(put(FULL, (at,), rows[:place + 1] + rows[place:]))
            self.no(put(FULL, (at,), rows + rows[:1]))

    def test_rows_in_the_wrong_order(self):
        for at, rows in enumerate(FULL):
            self.no(put(FULL, (at,), rows[::-1]))
            for one in range(len(rows)):
                for other in range(one):
                    turned = list(rows)
                    turned[one], turned[other] = turned[other], turned[one]
                    self.no(put(FULL, (at,), tuple(turned)))

    def test_a_row_left_out(self):
        for at in (1, 2):
            for place in range(len(FULL[at])):
                self.yes(put(FULL, (at,), FULL[at][:place] + FULL[at][place + 1:]))
        self.no(with_customs(CUSTOMS[1:]))
        self.yes(with_customs(CUSTOMS[:1] + CUSTOMS[2:]))
        self.yes(with_customs(CUSTOMS[:2]))
        self.yes(with_customs(CUSTOMS[:1]))
        self.yes(with_customs(()))

    def test_a_currency_left_out(self):
        for place in range(len(CURRENCIES)):
            self.no((CURRENCIES[:place] + CURRENCIES[place + 1:],) + FULL[1:])
            self.yes((CURRENCIES[:place] + CURRENCIES[place + 1:], ()) + FULL[2:])
        self.yes((CURRENCIES[:3], RATES[:4], TAXES, CUSTOMS))
        self.no((CURRENCIES[:3], RATES[4:], TAXES, CUSTOMS))
        self.no((CURRENCIES[3:], RATES[4:], TAXES, CUSTOMS))

    def test_currencies(self):
        for code in NO_CODES:
            self.no((((code, 2, 1),), (), (), ()))
        for code in ("aaa", "zzz", "eur"):
            self.yes((((code, 2, 1),), (), (), ()))
        for figures, cash in ((0, 1), (3, 1), (0, 100), (3, 100), (1, 5)):
            self.yes(((("eur", figures, cash),), (), (), ()))
        for figures, cash in ((-1, 1), (4, 1), (0, 0), (0, 101), (3, -1), (THIRTY, 1), (0, THIRTY)):
            self.no(((("eur", figures, cash),), (), (), ()))
        for thing in NO_NUMBERS:
            self.no(((("eur", thing, 1),), (), (), ()))
            self.no(((("eur", 1, thing),), (), (), ()))
        self.no(((), (), (), ()))
        self.no((tuple(("c" + letters(at), 2, 1) for at in range(6)), (), (), ()))
        # rising, but a code twice
        self.no(((("eur", 1, 1), ("eur", 2, 1)), (), (), ()))
        self.no(((("eur", 2, 1), ("eur", 2, 5)), (), (), ()))

    def test_rates(self):
        for day, top, bottom in ((0, 1, 1), (9999, 1, 1), (0, 100000, 1), (0, 1, 100000), (5, 4, 2), (5, 7, 7)):
            self.yes(with_rates((("chf", "eur", day, top, bottom),)))
        for day, top, bottom in (
                (-1, 1, 1), (10000, 1, 1), (0, 0, 1), (0, 1, 0), (0, 100001, 1), (0, 1, 100001), (0, -1, -1),
                (THIRTY, 1, 1), (0, THIRTY, 1), (0, 1, THIRTY)):
            self.no(with_rates((("chf", "eur", day, top, bottom),)))
        for thing in NO_NUMBERS:
            for at in (2, 3, 4):
                self.no(with_rates((put(("chf", "eur", 1, 1, 1), (at,), thing),)))
        for code in NO_CODES + ("usd", "aaa", "zzz"):
            self.no(with_rates(((code, "jpy", 1, 1, 1),)))
            self.no(with_rates((("chf", code, 1, 1, 1),)))
        self.no(with_rates((("eur", "eur", 1, 1, 1),)))
        self.no(with_rates((("eur", "chf", 1, 1, 1),)))
        self.yes(with_rates((("eur", "jpy", 1, 1, 1), ("eur", "jpy", 2, 1, 1))))
        self.no(with_rates((("eur", "jpy", 1, 1, 1), ("eur", "jpy", 1, 2, 1))))
        self.no(with_rates((("eur", "jpy", 1, 1, 1), ("eur", "jpy", 1, 1, 2))))
        self.no(with_rates((("eur", "jpy", 1, 2, 1), ("eur", "jpy", 0, 3, 1))))
        self.yes(with_rates(tuple(("eur", "jpy", day, 20 - day, 1) for day in range(20))))
        self.no(with_rates(tuple(("eur", "jpy", day, 1, 1) for day in range(21))))

    def test_taxes(self):
        for day, top, bottom in ((0, 0, 1), (9999, 1, 1), (0, 1000, 1000), (0, 0, 1000), (0, 2, 4), (3, 999, 1000)):
            for way in ("on", "within"):
                self.yes(with_taxes((("tax", day, top, bottom, way),)))
        for day, top, bottom in (
                (-1, 1, 1), (10000, 1, 1), (0, -1, 1), (0, 2, 1), (0, 1, 0), (0, 0, 0), (0, 1, 1001), (0, 1001, 1001),
                (0, 1001, 1000), (0, -2, -1), (THIRTY, 1, 1), (0, THIRTY, 1000), (0, 1, THIRTY), (0, -THIRTY, 1)):
            self.no(with_taxes((("tax", day, top, bottom, "on"),)))
        for thing in NO_NUMBERS:
            for at in (1, 2, 3):
                self.no(with_taxes((put(("tax", 1, 1, 1, "on"), (at,), thing),)))
        for sort in NO_WORDS:
            self.no(with_taxes(((sort, 1, 1, 1, "on"),)))
        for sort in ("a", "z", "abcdefgh", "zzzzzzzz"):
            self.yes(with_taxes(((sort, 1, 1, 1, "on"),)))
        for way in NO_WAYS:
            self.no(with_taxes((("tax", 1, 1, 1, way),)))
        self.yes(with_taxes((("tax", 1, 1, 1, "within"), ("tax", 2, 1, 1, "on"))))
        self.no(with_taxes((("tax", 1, 1, 1, "on"), ("tax", 1, 1, 1, "within"))))
        self.no(with_taxes((("tax", 1, 1, 2, "on"), ("tax", 1, 1, 3, "on"))))
        self.no(with_taxes((("tax", 1, 1, 3, "on"), ("tax", 1, 2, 3, "on"))))
        self.yes(with_taxes(tuple(("tax", day, 12 - day, 12, "on") for day in range(12))))
        self.no(with_taxes(tuple(("tax", day, 1, 12, "on") for day in range(13))))

    def test_customs(self):
        for custom in ("down", "up", "in", "out", "even", "far"):
            self.yes(with_customs(((0, custom),)))
            self.yes(with_customs(((0, "up"), (1, custom))))
        for custom in NO_CUSTOMS:
            self.no(with_customs(((0, custom),)))
            self.no(with_customs(((0, "up"), (1, custom))))
        for day in NO_NUMBERS + (1, -1, 9999, 10000, THIRTY):
            self.no(with_customs(((day, "up"),)))
        for day in NO_NUMBERS + (0, -1, 10000, THIRTY):
            self.no(with_customs(((0, "down"), (day, "up"))))
        self.yes(with_customs(((0, "up"), (9999, "down"))))
        self.no(with_customs(((0, "down"), (0, "up"))))
        self.no(with_customs(((0, "down"), (7, "down"), (7, "up"))))
        self.yes(with_customs(tuple((day, "up") for day in range(5))))
        self.no(with_customs(tuple((day, "up") for day in range(6))))


if __name__ == "__main__":
    unittest.main()

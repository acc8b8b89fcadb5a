"""[80], with [2] to [5] as far as they speak of amounts."""

import itertools
import unittest
from fractions import Fraction

from coinlaw.amounts import amount_text, cash_of, read_amount
from coinlaw.errors import NoCode, NoCoins, NoDay, NoRules, NoText
from coinlaw.fractions import is_fraction
from helpers import CUSTOMS, NEITHER, NO_DAYS, NO_RULES, THIRTY, TRUTHS, asked, pair, refused, round_by_hand, same_kind

RULES = ((("bhd", 3, 10), ("eur", 2, 5), ("jpy", 0, 1), ("one", 1, 100)), (), (), ())
PLACES = {"bhd": 3, "eur": 2, "jpy": 0, "one": 1}
COINS = (0, 1, 5, 9, 10, 11, 99, 100, 101, 105, 999, 1000, 1001, 1250, 12345, 1000000, THIRTY, THIRTY + 7)

BY_HAND = (
    (5, "eur", "0.05 eur"), (-1250, "eur", "-12.50 eur"), (0, "eur", "0.00 eur"), (-5, "eur", "-0.05 eur"),
    (50, "eur", "0.50 eur"), (100, "eur", "1.00 eur"), (-100, "eur", "-1.00 eur"), (123456, "eur", "1234.56 eur"),
    (0, "jpy", "0 jpy"), (7, "jpy", "7 jpy"), (-7, "jpy", "-7 jpy"), (1000, "jpy", "1000 jpy"),
    (0, "bhd", "0.000 bhd"), (1, "bhd", "0.001 bhd"), (12, "bhd", "0.012 bhd"), (123, "bhd", "0.123 bhd"),
    (1234, "bhd", "1.234 bhd"), (-1234, "bhd", "-1.234 bhd"), (-1, "bhd", "-0.001 bhd"),
    (0, "one", "0.0 one"), (9, "one", "0.9 one"), (10, "one", "1.0 one"), (-105, "one", "-10.5 one"),
)

NOT_WRITTEN = (
    "5 eur", "0.5 eur", "0.050 eur", ".05 eur", "00.05 eur", "0.05", "0.05eur", "0.05  eur", " 0.05 eur", "0.05 eur ",
    "0.05 usd", "0.05 EUR", "0.05 eu", "0.05 eurr", "eur 0.05", "eur", "+0.05 eur", "-0.00 eur", "--0.05 eur",
    "- 0.05 eur", "-.05 eur", "-eur", "- eur", "-", ".", "-. eur", "0..05 eur", "0.0.5 eur", "0,05 eur", "0.05.eur",
    "0.05\teur", "0.05\neur", "0.05 eur\n", "5. eur", "05 eur", "1 2.50 eur", "12.5 eur", "12.500 eur", "1_2.50 eur",
    "012.50 eur", "-012.50 eur", "12.50 eur eur", "12.50 jpy", "12. jpy", "0.0 jpy", "00 jpy", "-0 jpy", "07 jpy",
    "7.0 jpy", "7 eur", "1e3 jpy", "0x7 jpy", "7 bhd", "0.01 bhd", "0.0001 bhd", "0 one", "0.00 one", "-0.0 one",
    "1.-5 one", "-1.-5 one", "1.5- one", "10.5 one one", "5.1 one ", "", " ", "0.05 ", " eur", "0.05 eur\t",
    "=0.05 eur", "12 .50 eur", "12. 50 eur", "12.50e eur", "a.bc eur", "12.5a eur", "0.05 eur 0.05 eur",
    "9" * 390 + " eur",
)


class Texts(unittest.TestCase):
    def test_by_hand(self):
        for coins, code, text in BY_HAND:
            same_kind(self, asked(self, amount_text, RULES, coins, code), text)
            same_kind(self, asked(self, read_amount, RULES, text), (coins, code))

    def test_what_is_read_is_what_was_written(self):
        for coins in (*COINS, *[-coins for coins in COINS]):
            for code in PLACES:
                text = asked(self, amount_text, RULES, coins, code)
                same_kind(self, asked(self, read_amount, RULES, text), (coins, code))

    def test_the_figures(self):
        for coins in (*range(-1200, 1200, 7), *COINS):
            for code, places in PLACES.items():
                number, blank, name = amount_text(RULES, coins, code).partition(" ")
                self.assertEqual(name, code)
                self.assertEqual(number.startswith("-"), coins < 0)
                whole, point, behind = number.lstrip("-").partition(".")
                self.assertEqual((len(behind), point), (places, "." if places else ""))
                self.assertEqual(whole, str(int(whole)))
                self.assertEqual(int(whole) * 10 ** places + int(behind or "0"), abs(coins))

    def test_not_written_so(self):
        for text in NOT_WRITTEN:
            refused(self, NoText, read_amount, RULES, text)

    def test_a_sign_put_in_left_out_or_otherwise(self):
        signs = "0123456789.- aeur,+_"
        for text in ("0.05 eur", "-12.50 eur", "7 jpy", "0 jpy", "-0.001 bhd", "10.5 one"):
            things = {text[:at] + sign + text[at:] for at in range(len(text) + 1) for sign in signs}
            things |= {text[:at] + sign + text[at + 1:] for at in range(len(text)) for sign in signs}
            things |= {text[:at] + text[at + 1:] for at in range(len(text))}
            for thing in sorted(things):
                self.look(thing)

    def look(self, thing):
        """The text is read where it is one that is written, and only then."""
        number, blank, code = thing.partition(" ")
        figures = number.replace(".", "").replace("-", "")
        if code in PLACES and figures and set(figures) <= set("0123456789"):
            coins = int(figures) * (-1 if number[0] == "-" else 1)
            if amount_text(RULES, coins, code) == thing:
                same_kind(self, read_amount(RULES, thing), (coins, code))
                return
        refused(self, NoText, read_amount, RULES, thing)

    def test_each_small_text(self):
        for places, code in ((0, "jpy"), (1, "one")):
            written = {amount_text(RULES, coins, code): coins for coins in range(-9999, 10000)}
            for many in range(0, 5):
                for signs in itertools.product("01.-", repeat=many):
                    text = "".join(signs) + " " + code
                    if text in written:
                        same_kind(self, read_amount(RULES, text), (written[text], code))
                    else:
                        refused(self, NoText, read_amount, RULES, text)

    def test_by_name(self):
        same_kind(self, asked(self, amount_text, code="eur", coins=5, rules=RULES), "0.05 eur")
        same_kind(self, asked(self, read_amount, text="0.05 eur", rules=RULES), (5, "eur"))
        same_kind(self, asked(self, cash_of, day=0, code="eur", coins=7, rules=RULES), (5, (2, 1)))


class Cash(unittest.TestCase):
    def test_by_hand(self):
        for coins, code, told in (
                (0, "eur", (0, (0, 1))), (1, "eur", (0, (1, 1))), (2, "eur", (0, (2, 1))), (3, "eur", (5, (-2, 1))),
                (7, "eur", (5, (2, 1))), (8, "eur", (10, (-2, 1))), (-7, "eur", (-5, (-2, 1))), (7, "jpy", (7, (0, 1))),
                (5, "bhd", (0, (5, 1))), (15, "bhd", (20, (-5, 1))), (-15, "bhd", (-20, (5, 1))),
                (25, "bhd", (20, (5, 1))),
                (50, "one", (0, (50, 1))), (150, "one", (200, (-50, 1))), (149, "one", (100, (49, 1)))):
            same_kind(self, asked(self, cash_of, RULES, coins, code, 0), told)

    def test_each_custom_and_cash(self):
        for custom in CUSTOMS:
            for cash in (1, 2, 5, 10, 20, 25, 50, 99, 100):
                rules = ((("eur", 2, cash),), (), (), ((0, custom),))
                for coins in (*range(-2 * cash - 3, 2 * cash + 4), 10 ** 12 + cash // 2, -THIRTY, THIRTY):
                    told, rest = asked(self, cash_of, rules, coins, "eur", 0)
                    self.assertEqual(told, round_by_hand(Fraction(coins), custom, cash))
                    self.assertTrue(is_fraction(rest))
                    same_kind(self, rest, pair(Fraction(coins - told)))
                    self.assertEqual(told % cash, 0)

    def test_the_custom_of_the_day(self):
        rules = ((("eur", 2, 10),), (), (), ((0, "down"), (5, "up"), (9999, "far")))
        for day, told in ((0, 10), (4, 10), (5, 20), (9998, 20), (9999, 20)):
            self.assertEqual(cash_of(rules, 15, "eur", day)[0], told)
        for day, told in ((0, 10), (4, 10), (5, 20), (9998, 20), (9999, 10)):
            self.assertEqual(cash_of(rules, 11, "eur", day)[0], told)


class Refusals(unittest.TestCase):
    def test_no_rules(self):
        for thing in NO_RULES:
            refused(self, NoRules, amount_text, thing, 5, "eur")
            refused(self, NoRules, read_amount, thing, "0.05 eur")
            refused(self, NoRules, cash_of, thing, 5, "eur", 0)

    def test_no_coins(self):
        for thing in NEITHER + ("5", (5,), [5], {5: 5}):
            refused(self, NoCoins, amount_text, RULES, thing, "eur")
            refused(self, NoCoins, cash_of, RULES, thing, "eur", 0)

    def test_no_code(self):
        for thing in NEITHER + ("usd", "EUR", "eu", "eur ", ("eur",), ["eur"], {"eur": 1}, 0, 5):
            refused(self, NoCode, amount_text, RULES, 5, thing)
            refused(self, NoCode, cash_of, RULES, 5, thing, 0)

    def test_no_day(self):
        for thing in NO_DAYS:
            refused(self, NoDay, cash_of, RULES, 5, "eur", thing)

    def test_no_text(self):
        for thing in NEITHER + (0, 5, THIRTY, ("0.05 eur",), ["0.05 eur"], (5, "eur"), {"0.05 eur": 1}, b"0.05 eur"):
            refused(self, NoText, read_amount, RULES, thing)

    def test_the_one_further_to_the_left_first(self):
        for wrong in (None, (), [], {}) + TRUTHS:
            refused(self, NoRules, amount_text, wrong, wrong, wrong)
            refused(self, NoCoins, amount_text, RULES, wrong, wrong)
            refused(self, NoCode, amount_text, RULES, 5, wrong)
            refused(self, NoRules, read_amount, wrong, wrong)
            refused(self, NoRules, cash_of, wrong, wrong, wrong, wrong)
            refused(self, NoCoins, cash_of, RULES, wrong, wrong, wrong)
            refused(self, NoCode, cash_of, RULES, 5, wrong, wrong)
            refused(self, NoDay, cash_of, day=wrong, code="eur", coins=5, rules=RULES)


if __name__ == "__main__":
    unittest.main()

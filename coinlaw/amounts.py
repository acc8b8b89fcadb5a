"""Amounts as texts, and in cash."""

from coinlaw.days import refuse_no_day
from coinlaw.errors import NoCoins, NoText
from coinlaw.kinds import are_figures, is_whole
from coinlaw.roundings import rounded
from coinlaw.rules import codes_of, custom_at, refuse_no_code, refuse_no_rules


def amount_text(rules, coins, code):
    """The text of an amount."""
    refuse_no_amount(rules, coins, code)
    return text_of(rules, coins, code)


def read_amount(rules, text):
    """The amount (coins, code) that a text writes just so."""
    refuse_no_rules(rules)
    amount = amount_in(rules, text)
    if amount is None:
        raise NoText("no amount is written so")
    return amount


def cash_of(rules, coins, code, day):
    """An amount in cash: (told, rest)."""
    refuse_no_amount(rules, coins, code)
    refuse_no_day(day)
    name, places, cash = currency_of(rules, code)
    return rounded(coins, 1, custom_at(rules, day), step=cash)


def refuse_no_amount(rules, coins, code):
    refuse_no_rules(rules)
    if not is_whole(coins):
        raise NoCoins("coins are a whole number")
    refuse_no_code(rules, code)


def currency_of(rules, code):
    """The row (code, places, cash) of a code."""
    return [row for row in rules[0] if row[0] == code][0]


def text_of(rules, coins, code):
    """As amount_text, of what is known to be rules and an amount."""
    name, places, cash = currency_of(rules, code)
    figures = str(abs(coins)).zfill(places + 1)
    ahead = len(figures) - places
    sign = "-" if coins < 0 else ""
    point = "." if places else ""
    return f"{sign}{figures[:ahead]}{point}{figures[ahead:]} {code}"


def amount_in(rules, text):
    """The amount that a text writes just so, None where it writes none."""
    if not isinstance(text, str):
        return None
    number, blank, code = text.partition(" ")
    figures = number.removeprefix("-").replace(".", "")
    if code not in codes_of(rules) or not are_figures(figures):
        return None
    coins = -int(figures) if number.startswith("-") else int(figures)
    # Whatever else stands in the text, or stands elsewhere, does not stand so in the one that the amount has.
    return (coins, code) if text_of(rules, coins, code) == text else None

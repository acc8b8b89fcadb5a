"""Rules: currencies, and the rates, taxes and customs of their days."""

from coinlaw.days import is_day
from coinlaw.errors import NoCode, NoRules
from coinlaw.kinds import is_code, is_rising, is_tuple_of, is_within, is_word
from coinlaw.roundings import is_custom


def are_rules(thing):
    if not is_tuple_of(thing, 4, 4):
        return False
    currencies, rates, taxes, customs = thing
    if not are_currencies(currencies):
        return False
    codes = [row[0] for row in currencies]
    return are_rates(rates, codes) and are_taxes(taxes) and are_customs(customs)


def refuse_no_rules(thing):
    if not are_rules(thing):
        raise NoRules("rules are a tuple of currencies, rates, taxes and customs")


def are_currencies(thing):
    if not is_tuple_of(thing, 1, 5) or not all([is_currency(row) for row in thing]):
        return False
    # Rows with unlike codes rise just where their codes do; likewise below.
    return is_rising([row[0] for row in thing])


def is_currency(row):
    if not is_tuple_of(row, 3, 3):
        return False
    code, places, cash = row
    return is_code(code) and is_within(places, 0, 3) and is_within(cash, 1, 100)


def are_rates(thing, codes):
    if not is_tuple_of(thing, 0, 20) or not all([is_rate(row, codes) for row in thing]):
        return False
    return is_rising([row[:3] for row in thing])


def is_rate(row, codes):
    if not is_tuple_of(row, 5, 5):
        return False
    one, other, day, top, bottom = row
    if one not in codes or other not in codes or not one < other:
        return False
    return is_day(day) and is_within(top, 1, 100000) and is_within(bottom, 1, 100000)


def are_taxes(thing):
    if not is_tuple_of(thing, 0, 12) or not all([is_tax(row) for row in thing]):
        return False
    return is_rising([row[:2] for row in thing])


def is_tax(row):
    if not is_tuple_of(row, 5, 5):
        return False
    sort, day, top, bottom, way = row
    if not is_word(sort) or not is_day(day) or way not in ("on", "within"):
        return False
    return is_within(bottom, 1, 1000) and is_within(top, 0, bottom)


def are_customs(thing):
    if not is_tuple_of(thing, 0, 5) or not all([is_custom_row(row) for row in thing]):
        return False
    days = [row[0] for row in thing]
    return is_rising(days) and (not days or days[0] == 0)


def is_custom_row(row):
    if not is_tuple_of(row, 2, 2):
        return False
    day, custom = row
    return is_day(day) and is_custom(custom)


def codes_of(rules):
    """The codes of the rules' currencies, rising."""
    return [row[0] for row in rules[0]]


def refuse_no_code(rules, thing):
    if thing not in codes_of(rules):
        raise NoCode("that is no code of the rules' currencies")


def custom_at(rules, day):
    """The custom of rounding that stands at a day."""
    standing = "even"
    for since, custom in rules[3]:
        if since <= day:
            standing = custom
    return standing

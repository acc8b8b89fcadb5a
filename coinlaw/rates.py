"""Rates between currencies at a day."""

from coinlaw.days import refuse_no_day
from coinlaw.fractions import fraction_of
from coinlaw.rules import codes_of, refuse_no_code, refuse_no_rules


def rate(rules, day, one, other):
    """The rate from one code to another one at a day, None where none stands yet."""
    refuse_rules_and_day(rules, day)
    refuse_no_code(rules, one)
    refuse_no_code(rules, other)
    return standing_rate(rules, day, one, other)


def standing_rate(rules, day, one, other):
    """As rate, of what is known to be rules, a day and two codes."""
    if one == other:
        return 1, 1
    if one > other:
        turned = standing_rate(rules, day, other, one)
        return None if turned is None else (turned[1], turned[0])
    # The rows rise, so that of the same two codes the latest one stands last.
    tops = [row[3:] for row in rules[1] if row[:2] == (one, other) and row[2] <= day]
    if not tops:
        return None
    top, bottom = tops[-1]
    return fraction_of(top, bottom)


def standing_rates(rules, day):
    """Tuples (one, other, rate), one less than other, of all that stand at a day."""
    codes = codes_of(rules)
    pairs = [(one, other) for one in codes for other in codes if one < other]
    rows = [(one, other, standing_rate(rules, day, one, other)) for one, other in pairs]
    return [row for row in rows if row[2] is not None]


def refuse_rules_and_day(rules, day):
    refuse_no_rules(rules)
    refuse_no_day(day)

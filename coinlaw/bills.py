"""Bills and their taxes, rounded per line or per sum."""

from coinlaw.days import is_day
from coinlaw.errors import NoBill, NoPer
from coinlaw.fractions import plus
from coinlaw.kinds import is_tuple_of, is_within
from coinlaw.roundings import rounded
from coinlaw.rules import codes_of, custom_at, refuse_no_rules


def billed(rules, bill, *, per="line"):
    """What a bill comes to: (rows, bare, tax, whole), rows of (sort, bare, tax, whole, rest)."""
    refuse_no_rules(rules)
    if not is_bill(rules, bill):
        raise NoBill("a bill is a tuple of a day, a code and one to eight lines of sorts that are taxed at the day")
    if per not in ("line", "sum"):
        raise NoPer("a bill is rounded per line or per sum")
    day, code, lines = bill
    sorts = sorted(set([line[0] for line in lines]))
    rows = [row_of(rules, day, sort, amounts_of(lines, sort, per)) for sort in sorts]
    return tuple(rows), sum([row[1] for row in rows]), sum([row[2] for row in rows]), sum([row[3] for row in rows])


def is_bill(rules, thing):
    if not is_tuple_of(thing, 3, 3):
        return False
    day, code, lines = thing
    if not is_day(day) or code not in codes_of(rules) or not is_tuple_of(lines, 1, 8):
        return False
    return all([is_line(rules, day, line) for line in lines])


def is_line(rules, day, thing):
    if not is_tuple_of(thing, 3, 3):
        return False
    sort, coins, many = thing
    return standing_tax(rules, day, sort) is not None and is_within(coins, 0, 10000000) and is_within(many, 1, 99)


def standing_tax(rules, day, sort):
    """The row (sort, day, top, bottom, way) of a sort that stands at a day, None where none does."""
    # The rows rise, so that of the same sort the latest one stands last.
    rows = [row for row in rules[2] if row[0] == sort and row[1] <= day]
    return rows[-1] if rows else None


def amounts_of(lines, sort, per):
    """What is taxed and rounded of a sort: each of its lines by itself, or all of them together."""
    amounts = [coins * many for name, coins, many in lines if name == sort]
    return amounts if per == "line" else [sum(amounts)]


def row_of(rules, day, sort, amounts):
    name, since, top, bottom, way = standing_tax(rules, day, sort)
    # Within what is with tax, of each bottom without tax there are bottom and top together.
    base = bottom if way == "on" else bottom + top
    tax = 0
    rest = (0, 1)
    for amount in amounts:
        told, left = rounded(amount * top, base, custom_at(rules, day))
        tax += told
        rest = plus(rest, left)
    lined = sum(amounts)
    bare = lined if way == "on" else lined - tax
    return sort, bare, tax, bare + tax, rest

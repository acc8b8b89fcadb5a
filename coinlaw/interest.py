"""Interest of an account, exactly."""

from coinlaw.books import refuse_no_book
from coinlaw.days import YEAR_DAYS
from coinlaw.errors import NoPart
from coinlaw.fractions import fraction_of
from coinlaw.kinds import is_tuple_of, is_within


def interest(book, account, first, last, part):
    """What an account's balances above 0 earn from the day first to the day last, by a part of a year."""
    refuse_no_book(book)
    begin, rows, end = book.statement(account, first, last)
    refuse_no_part(part)
    top, bottom = part
    return fraction_of(coin_days(begin, rows, first, last) * top, bottom * YEAR_DAYS)


def coin_days(begin, rows, first, last):
    """The sum, over all days, of the balance at each where it is above 0."""
    total = 0
    held = begin
    since = first
    for number, day, text, coins in rows:
        total += max(0, held) * (day - since)
        held += coins
        since = day
    return total + max(0, held) * (last + 1 - since)


def is_part(thing):
    if not is_tuple_of(thing, 2, 2):
        return False
    top, bottom = thing
    return is_within(top, 0, 100) and is_within(bottom, 1, 1000)


def refuse_no_part(thing):
    if not is_part(thing):
        raise NoPart("a part is a tuple of a top from 0 to 100 and a bottom from 1 to 1,000")

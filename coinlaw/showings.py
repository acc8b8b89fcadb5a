"""Showings: a paper of a house, account by account."""

from coinlaw.books import are_postings, is_account
from coinlaw.days import refuse_no_day
from coinlaw.errors import NoHouse, NoPostings
from coinlaw.houses import House
from coinlaw.kinds import is_same
from coinlaw.papers import balance_paper
from coinlaw.rules import codes_of, refuse_no_rules


def showing_of(house):
    """For each open account its balance paper at today and its balance."""
    if not isinstance(house, House):
        raise NoHouse("that is no House")
    book = house.book()
    day = house.today()
    return {account: (balance_paper(book, account, day), book.balance(account, day)) for account in book.accounts()}


def is_showing(rules, postings, day, thing):
    """Whether thing is a showing by rules, postings and a day alone."""
    refuse_no_rules(rules)
    codes = codes_of(rules)
    if not are_postings(postings, codes):
        raise NoPostings("postings are a list of tuples of a day, a text and rows, as a book of the rules could have")
    refuse_no_day(day)
    if not isinstance(thing, dict):
        return False
    posted = shown_by(postings, day)
    if not all([account in thing for account in posted]):
        return False
    # Each posting comes to nought in each code, so right balances do, too.
    return all([is_account(key, codes) and is_same(thing[key], posted.get(key, ((), 0))) for key in thing])


def shown_by(postings, day):
    """For each account with a posting up to the day the numbers of its postings and what they come to."""
    numbers = {}
    held = {}
    for number, (since, text, rows) in enumerate(postings):
        if since <= day:
            for account, coins in rows:
                numbers.setdefault(account, []).append(number)
                held[account] = held.get(account, 0) + coins
    return {account: (tuple(numbers[account]), held[account]) for account in numbers}

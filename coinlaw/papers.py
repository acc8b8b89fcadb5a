"""Balance papers: by which postings a balance came."""

from coinlaw.books import refuse_no_book
from coinlaw.kinds import is_same


def balance_paper(book, account, day):
    """The numbers of all postings up to a day that have an account, rising."""
    refuse_no_book(book)
    begin, rows, end = book.statement(account, 0, day)
    return tuple([row[0] for row in rows])


def is_balance_paper(book, account, day, thing):
    """Whether thing is the balance paper."""
    return is_same(thing, balance_paper(book, account, day))

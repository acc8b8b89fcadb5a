"""[72], with [2] to [5] as far as they speak of balance papers."""

import random
import unittest

from coinlaw.books import Book
from coinlaw.errors import NoAccount, NoBook, NoDay
from coinlaw.papers import balance_paper, is_balance_paper
from helpers import NEITHER, NO_ACCOUNTS, NO_DAYS, THIRTY, asked, no, otherwise, refused, same_kind, yes

RULES = ((("eur", 2, 1), ("jpy", 0, 1)), (), (), ())
ANN, BOB, CY, DAN = ("ann", "eur"), ("bob", "eur"), ("cy", "eur"), ("dan", "eur")
ACCOUNTS = (ANN, BOB, CY, DAN)


def some_book(turn):
    chance = random.Random(turn)
    book = Book(RULES)
    for account in ACCOUNTS:
        book.begin(account)
    day = 0
    for number in range(12):
        day += chance.choice((0, 1, 2))
        one, other = sorted(chance.sample(ACCOUNTS[:3], 2))
        book.post(day, "a", ((one, number + 1), (other, -number - 1)))
    return book


def paper_by_look(book, account, day):
    postings = [book.posting(number) for number in range(len(book))]
    return tuple(number for number, (since, text, rows) in enumerate(postings)
                 if since <= day and account in [row[0] for row in rows])


class Papers(unittest.TestCase):
    def test_by_hand(self):
        book = Book(RULES)
        for account in ACCOUNTS:
            book.begin(account)
        book.post(1, "a", ((ANN, 5), (BOB, -5)))
        book.post(2, "a", ((BOB, 5), (CY, -5)))
        book.post(2, "a", ((ANN, 5), (CY, -5)))
        book.reverse(0, 9)
        for account, day, told in (
                (ANN, 0, ()), (ANN, 1, (0,)), (ANN, 2, (0, 2)), (ANN, 8, (0, 2)), (ANN, 9, (0, 2, 3)), (BOB, 2, (0, 1)),
                (CY, 9999, (1, 2)), (DAN, 9999, ())):
            same_kind(self, asked(self, balance_paper, book, account, day), told)
            yes(self, is_balance_paper, book, account, day, told)

    def test_by_look(self):
        for turn in range(10):
            book = some_book(turn)
            before = book.twin()
            for account in ACCOUNTS:
                for day in (0, 1, 3, 7, 12, 30, 9999):
                    paper = asked(self, balance_paper, book, account, day)
                    same_kind(self, paper, paper_by_look(book, account, day))
                    yes(self, is_balance_paper, book, account, day, paper)
                    posted = [dict(book.posting(number)[2])[account] for number in paper]
                    self.assertEqual(sum(posted), book.balance(account, day))
            self.assertTrue(book == before)

    def test_by_name(self):
        book = some_book(0)
        paper = paper_by_look(book, ANN, 9)
        same_kind(self, asked(self, balance_paper, day=9, account=ANN, book=book), paper)
        yes(self, is_balance_paper, thing=paper, day=9, account=ANN, book=book)
        no(self, is_balance_paper, thing=paper + (99,), day=9, account=ANN, book=book)


class PapersOfAnything(unittest.TestCase):
    def test_one_thing_otherwise(self):
        for turn in range(4):
            book = some_book(turn)
            for account in ACCOUNTS:
                for day in (2, 9999):
                    paper = balance_paper(book, account, day)
                    for thing in otherwise(paper):
                        self.assertIs(is_balance_paper(book, account, day, thing), repr(thing) == repr(paper))

    def test_papers_of_other_accounts_and_days(self):
        book = some_book(1)
        for account in ACCOUNTS:
            for day in (0, 3, 9, 9999):
                paper = balance_paper(book, account, day)
                for other in ACCOUNTS:
                    for later in (0, 3, 9, 9999):
                        thing = balance_paper(book, other, later)
                        self.assertIs(is_balance_paper(book, account, day, thing), thing == paper)

    def test_truths(self):
        book = Book(RULES)
        for account in ACCOUNTS:
            book.begin(account)
        for turn in range(2):
            book.post(0, "a", ((ANN, 5), (BOB, -5)))
        yes(self, is_balance_paper, book, ANN, 0, (0, 1))
        for thing in ((False, 1), (0, True), (False, True), [0, 1], (1, 0), (0, 1, 1), (0, 0, 1), (0,), (1,), (0, 1, 2),
                      (0, 2), (-1, 0, 1), ((0, 1),), {0: 1}, ("0", "1")):
            no(self, is_balance_paper, book, ANN, 0, thing)

    def test_things_of_other_kinds(self):
        book = some_book(2)
        for thing in NEITHER + (0, 1, THIRTY, RULES, list(balance_paper(book, ANN, 9999)), [book.posting(0)]):
            self.assertIs(is_balance_paper(book, DAN, 9999, thing), thing == ())
            no(self, is_balance_paper, book, ANN, 9999, thing)


class Refusals(unittest.TestCase):
    def wrong(self, error, *things):
        refused(self, error, balance_paper, *things)
        for thing in ((), (0,), None, [], True):
            refused(self, error, is_balance_paper, *things, thing)

    def test_no_book(self):
        for thing in NEITHER + (0, RULES, [some_book(0)], "book"):
            self.wrong(NoBook, thing, ANN, 0)

    def test_no_account(self):
        for thing in NO_ACCOUNTS + (("eve", "eur"), ("ann", "jpy")):
            self.wrong(NoAccount, some_book(0), thing, 0)

    def test_no_day(self):
        for thing in NO_DAYS:
            self.wrong(NoDay, some_book(0), ANN, thing)

    def test_the_one_further_to_the_left_first(self):
        for wrong in (None, True, (), [], {}):
            self.wrong(NoBook, wrong, wrong, wrong)
            self.wrong(NoAccount, some_book(0), wrong, wrong)
            self.wrong(NoAccount, some_book(0), ("eve", "eur"), 10000)
            self.wrong(NoDay, some_book(0), ANN, wrong)


if __name__ == "__main__":
    unittest.main()

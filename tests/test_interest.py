"""[71], with [2] to [5] as far as they speak of interest."""

import random
import unittest
from fractions import Fraction

from coinlaw.books import Book
from coinlaw.errors import NoAccount, NoBook, NoDay, NoPart
from coinlaw.fractions import is_fraction
from coinlaw.interest import interest
from helpers import NEITHER, NO_ACCOUNTS, NO_DAYS, NO_PARTS, THIRTY, asked, pair, refused, same_kind

RULES = ((("eur", 2, 1), ("jpy", 0, 1)), (), (), ())
ANN, BOB, CY = ("ann", "eur"), ("bob", "eur"), ("cy", "eur")
PARTS = ((0, 1), (0, 1000), (1, 1), (1, 1000), (100, 1), (100, 1000), (5, 100), (7, 360), (3, 9))


def book_of(rows):
    """A book with postings of (day, coins) from bob to ann."""
    book = Book(RULES)
    for account in (ANN, BOB, CY):
        book.begin(account)
    for day, coins in rows:
        book.post(day, "a", ((ANN, coins), (BOB, -coins)))
    return book


def day_by_day(book, account, first, last, part):
    total = Fraction(0)
    for day in range(first, last + 1):
        total += Fraction(max(0, book.balance(account, day)) * part[0], part[1] * 360)
    return total


class Interest(unittest.TestCase):
    def test_by_hand(self):
        book = book_of(((10, 100), (12, -150), (20, 50), (21, 360)))
        for account, first, last, part, told in (
                (ANN, 0, 9, (1, 1), (0, 1)), (ANN, 10, 10, (1, 1), (5, 18)), (ANN, 10, 11, (1, 1), (5, 9)),
                (ANN, 0, 11, (1, 1), (5, 9)), (ANN, 12, 20, (1, 1), (0, 1)), (ANN, 21, 21, (1, 1), (1, 1)),
                (ANN, 21, 21, (100, 1), (100, 1)), (ANN, 21, 30, (5, 100), (1, 2)), (ANN, 0, 21, (1, 1), (14, 9)),
                (BOB, 12, 19, (1, 1), (10, 9)), (BOB, 0, 20, (1, 1), (10, 9)), (CY, 0, 9999, (1, 1), (0, 1)),
                (ANN, 21, 21, (0, 1), (0, 1)), (ANN, 21, 9999, (100, 1000), (9979, 10)),
                (ANN, 0, 0, (1, 1), (0, 1)), (ANN, 9999, 9999, (2, 2), (1, 1))):
            same_kind(self, asked(self, interest, book, account, first, last, part), told)

    def test_several_on_one_day(self):
        # only what stands at the end of the day counts
        book = book_of(((0, 1000), (0, -1000), (5, 72), (5, -36), (5, 36), (6, -72)))
        same_kind(self, interest(book, ANN, 0, 5, (5, 1)), (1, 1))
        same_kind(self, interest(book, ANN, 0, 9999, (5, 1)), (1, 1))
        same_kind(self, interest(book, ANN, 0, 4, (5, 1)), (0, 1))

    def test_by_a_sum_day_by_day(self):
        for turn in range(40):
            chance = random.Random(turn)
            days = sorted(chance.randint(0, 60) for _ in range(chance.randint(0, 12)))
            book = book_of([(day, chance.choice((1, -1, 500, -700, chance.randint(1, 9999)))) for day in days])
            before = book.twin()
            for again in range(6):
                first = chance.randint(0, 70)
                last = chance.choice((first, first + 1, first + 29, chance.randint(first, 90)))
                for account in (ANN, BOB, CY):
                    part = chance.choice(PARTS)
                    told = asked(self, interest, book, account, first, last, part)
                    self.assertTrue(is_fraction(told))
                    same_kind(self, told, pair(day_by_day(book, account, first, last, part)))
            self.assertTrue(book == before)

    def test_great_coins(self):
        book = book_of(((0, THIRTY),))
        same_kind(self, interest(book, ANN, 0, 359, (100, 1)), (100 * THIRTY, 1))

    def test_parts_of_days_come_to_the_whole(self):
        book = book_of(((3, 77), (9, -100), (15, 1234), (15, 1), (40, -5)))
        whole = Fraction(*interest(book, ANN, 0, 59, (7, 113)))
        for cut in range(59):
            parts = (interest(book, ANN, 0, cut, (7, 113)), interest(book, ANN, cut + 1, 59, (7, 113)))
            self.assertEqual(sum(Fraction(*part) for part in parts), whole)

    def test_by_name(self):
        book = book_of(((0, 360),))
        same_kind(self, asked(self, interest, part=(1, 1), last=1, first=0, account=ANN, book=book), (2, 1))


class Refusals(unittest.TestCase):
    def setUp(self):
        self.book = book_of(((3, 5),))

    def test_no_book(self):
        for thing in NEITHER + (0, RULES, "Book(3 accounts, 1 postings)", [self.book], (self.book,), THIRTY):
            refused(self, NoBook, interest, thing, ANN, 0, 0, (1, 1))

    def test_no_account(self):
        for thing in NO_ACCOUNTS + (("dan", "eur"), ("ann", "jpy")):
            refused(self, NoAccount, interest, self.book, thing, 0, 0, (1, 1))

    def test_no_day(self):
        for thing in NO_DAYS:
            refused(self, NoDay, interest, self.book, ANN, thing, 9999, (1, 1))
            refused(self, NoDay, interest, self.book, ANN, 0, thing, (1, 1))
        for first, last in ((1, 0), (9999, 9998), (9999, 0)):
            refused(self, NoDay, interest, self.book, ANN, first, last, (1, 1))

    def test_no_part(self):
        for thing in NO_PARTS:
            refused(self, NoPart, interest, self.book, ANN, 0, 0, thing)
        for part in PARTS:
            interest(self.book, ANN, 0, 9999, part)

    def test_the_one_further_to_the_left_first(self):
        for wrong in (None, True, (), [], {}):
            refused(self, NoBook, interest, wrong, wrong, wrong, wrong, wrong)
            refused(self, NoAccount, interest, self.book, wrong, wrong, wrong, wrong)
            refused(self, NoAccount, interest, self.book, ("dan", "eur"), 5, 4, wrong)
            refused(self, NoDay, interest, self.book, ANN, wrong, wrong, wrong)
            refused(self, NoDay, interest, self.book, ANN, 0, wrong, wrong)
            refused(self, NoDay, interest, self.book, ANN, 1, 0, wrong)
            refused(self, NoPart, interest, part=wrong, last=1, first=0, account=ANN, book=self.book)


if __name__ == "__main__":
    unittest.main()

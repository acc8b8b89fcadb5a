"""[70], with [2] to [5] as far as they speak of books."""

import random
import unittest

from coinlaw.books import Book
from coinlaw.errors import Early, NoAccount, NoDay, NoNumber, NoRows, NoRules, NoText, Open
from helpers import (
    NEITHER, NO_ACCOUNTS, NO_DAYS, NO_RULES, THIRTY, TRUTHS, asked, like, refused, same_kind, shuffled, unlike,
)

CODES = ("chf", "eur", "jpy")
CURRENCIES = (("chf", 2, 5), ("eur", 2, 1), ("jpy", 0, 1))
RULES = (CURRENCIES, (), (), ())
OTHER_RULES = (
    (CURRENCIES, (("chf", "eur", 0, 1, 1),), (), ()), (CURRENCIES, (), (("food", 0, 1, 9, "on"),), ()),
    (CURRENCIES, (), (), ((0, "even"),)), (CURRENCIES[:2], (), (), ()), (CURRENCIES + (("usd", 2, 1),), (), (), ()),
    ((("chf", 2, 1),) + CURRENCIES[1:], (), (), ()),
)
ANN, BOB, CY = ("ann", "eur"), ("bob", "eur"), ("cy", "eur")
FRANCS, YEN = ("ann", "chf"), ("bob", "jpy")
DAN = ("dan", "eur")
ROWS = ((ANN, 5), (BOB, -5))
WORDS = ("a", "ann", "bob", "cy", "dan", "eve", "hi", "zzzzzzzz")
MANY = tuple(sorted((word, code) for word in WORDS for code in CODES))

NO_TEXTS = tuple(thing for thing in NEITHER if thing not in (" ", "0", "a", "abc", "no such word")) + (
    "a" * 21, "A", "a-b", "a.b", "a\n", "\t", "a_b", "cafe!", ("a",), ["a"], {"a": 1}, 0, 1, THIRTY, "`", "{", "/",
    ":", b"a",
)
TEXTS = ("a", "z", "0", "9", " ", "a b", "a" * 20, " " * 20, "rent of 7 rooms", "back", "0123456789")
NO_NUMBERS = NEITHER + (-1, THIRTY, -THIRTY, "0", (0,), [0], {0: 0})


def opened(*accounts, rules=RULES):
    book = Book(rules)
    for account in accounts:
        book.begin(account)
    return book


def ready():
    """A book with five accounts and three postings."""
    book = opened(CY, ANN, BOB, YEN, FRANCS)
    book.post(3, "first", ROWS)
    book.post(3, "second", ((ANN, -2), (CY, 2)))
    book.post(10, "third", ((ANN, 7), (BOB, -7)))
    return book


def whole(book):
    """All that a book tells."""
    postings = [book.posting(number) for number in range(len(book))]
    return repr((book.accounts(), postings, book.trial(9999), [book.statement(account, 0, 9999)
                                                              for account in book.accounts()], book))


class Ledger:
    """What a book should tell, by a look at all that was posted."""

    def __init__(self):
        self.rows = []
        self.accounts = []

    def balance(self, account, day):
        return sum(coins for since, text, rows in self.rows for one, coins in rows if one == account and since <= day)

    def statement(self, account, first, last):
        rows = [(number, day, text, coins) for number, (day, text, posted) in enumerate(self.rows)
                for one, coins in posted if one == account and first <= day <= last]
        return self.balance(account, first - 1), rows, self.balance(account, last)

    def trial(self, day):
        told = {}
        for code in CODES:
            held = [(word, self.balance((word, own), day)) for word, own in sorted(self.accounts) if own == code]
            told[code] = tuple(row for row in held if row[1])
        return told


def some_rows(chance, accounts, codes):
    """Rows of so many codes, two to twelve, that come to nought in each."""
    held = {}
    for code in codes:
        own = [account for account in accounts if account[1] == code]
        own = chance.sample(own, chance.randint(2, min(len(own), 12 // len(codes))))
        coins = [chance.choice((1, 5, -3, 10 ** 9, chance.randint(-99, 99) or 1)) for _ in own[1:]]
        if sum(coins) == 0:
            coins[0] += 1 if coins[0] != -1 else 2
        held.update(zip(own, [-sum(coins)] + coins))
    return tuple(sorted(held.items()))


class Accounts(unittest.TestCase):
    def test_opened_in_any_order(self):
        for turn, accounts in shuffled(MANY, 20):
            book = Book(RULES)
            for many, account in enumerate(accounts):
                self.assertIsNone(book.begin(account))
                same_kind(self, asked(self, book.accounts), sorted(accounts[:many + 1]))
                self.assertEqual(book.balance(account, 9999), 0)
                self.assertEqual(book.statement(account, 0, 9999), (0, [], 0))
            self.assertEqual(len(book), 0)

    def test_a_fresh_book(self):
        book = Book(RULES)
        same_kind(self, book.accounts(), [])
        same_kind(self, book.trial(0), {"chf": (), "eur": (), "jpy": ()})
        self.assertEqual(len(book), 0)
        self.assertEqual(repr(book), "Book(0 accounts, 0 postings)")

    def test_open_already(self):
        book = ready()
        before = whole(book)
        for account in book.accounts():
            refused(self, Open, book.begin, account)
        self.assertEqual(whole(book), before)

    def test_words_and_codes(self):
        book = Book(RULES)
        for account in (("a", "eur"), ("abcdefgh", "eur"), ("world", "jpy"), ("eur", "eur"), ("tax", "chf")):
            book.begin(account)
            self.assertIn(account, book.accounts())

    def test_no_account(self):
        book = ready()
        before = whole(book)
        for thing in NO_ACCOUNTS:
            refused(self, NoAccount, book.begin, thing)
            refused(self, NoAccount, book.balance, thing, 0)
            refused(self, NoAccount, book.statement, thing, 0, 0)
        for account in (DAN, ("ann", "jpy"), ("bob", "chf")):
            refused(self, NoAccount, book.balance, account, 0)
            refused(self, NoAccount, book.statement, account, 0, 0)
        self.assertEqual(whole(book), before)

    def test_the_list_is_the_askers(self):
        book = ready()
        before = whole(book)
        book.accounts().append(DAN)
        book.accounts().clear()
        self.assertEqual(whole(book), before)
        refused(self, NoAccount, book.balance, DAN, 0)


class Postings(unittest.TestCase):
    def test_numbers(self):
        book = opened(ANN, BOB)
        for number in range(30):
            same_kind(self, book.post(number // 3, f"no {number}", ROWS), number)
            self.assertEqual(len(book), number + 1)
            same_kind(self, asked(self, book.posting, number), (number // 3, f"no {number}", ROWS))

    def test_texts(self):
        book = opened(ANN, BOB)
        for number, text in enumerate(TEXTS):
            same_kind(self, book.post(0, text, ROWS), number)
            same_kind(self, book.posting(number), (0, text, ROWS))

    def test_two_to_twelve_rows(self):
        accounts = [(word, "eur") for word in sorted("abcdefghijklm")]
        book = opened(*accounts)
        for many in range(2, 13):
            rows = tuple((account, 1) for account in accounts[:many - 1]) + ((accounts[many - 1], 1 - many),)
            book.post(many, "rows", rows)
            for at, account in enumerate(accounts[:many]):
                self.assertEqual(book.statement(account, many, many)[1][0][3], rows[at][1])
        rows = tuple((account, 1) for account in accounts[:12]) + ((accounts[12], -12),)
        refused(self, NoRows, book.post, 13, "rows", rows)

    def test_days_that_rise_and_like_ones(self):
        book = opened(ANN, BOB)
        for day in (0, 0, 1, 1, 5, 29, 30, 9999, 9999):
            book.post(day, "day", ROWS)
            for early in {0, day - 1, day // 2} & set(range(day)):
                before = whole(book)
                refused(self, Early, book.post, early, "day", ROWS)
                refused(self, Early, book.reverse, 0, early)
                self.assertEqual(whole(book), before)

    def test_great_coins(self):
        book = opened(ANN, BOB)
        book.post(0, "great", ((ANN, THIRTY), (BOB, -THIRTY)))
        book.post(0, "great", ((ANN, THIRTY), (BOB, -THIRTY)))
        self.assertEqual(book.balance(ANN, 0), 2 * THIRTY)

    def test_turned_back_and_again(self):
        book = ready()
        same_kind(self, book.reverse(0, 10), 3)
        same_kind(self, book.posting(3), (10, "back", ((ANN, -5), (BOB, 5))))
        same_kind(self, book.reverse(3, 11), 4)
        same_kind(self, book.posting(4), (11, "back", ROWS))
        same_kind(self, book.reverse(0, 11), 5)
        same_kind(self, book.reverse(0, 12), 6)
        self.assertEqual([book.balance(ANN, day) for day in (2, 3, 9, 10, 11, 12)], [0, 3, 3, 5, 5, 0])
        same_kind(self, book.posting(0), (3, "first", ROWS))

    def test_two_codes(self):
        book = opened(ANN, BOB, FRANCS, ("bob", "chf"))
        rows = ((FRANCS, 3), (ANN, -4), (("bob", "chf"), -3), (BOB, 4))
        self.assertEqual(sorted(rows), list(rows))
        book.post(0, "swap", rows)
        same_kind(self, book.trial(0), {"chf": (("ann", 3), ("bob", -3)), "eur": (("ann", -4), ("bob", 4)), "jpy": ()})
        # together 0, but not of each code
        for wrong in (((FRANCS, 3), (ANN, -3)), ((FRANCS, 3), (ANN, 1), (("bob", "chf"), -4)),
                      ((FRANCS, 3), (ANN, -4), (("bob", "chf"), -2), (BOB, 3))):
            refused(self, NoRows, book.post, 0, "swap", wrong)

    def test_rules_of_one_code(self):
        book = opened(ANN, BOB, CY, rules=((("eur", 2, 1),), (), (), ()))
        same_kind(self, book.post(0, "a", ROWS), 0)
        for wrong in (((ANN, 5), (BOB, -4)), ((ANN, 5), (BOB, 5)), ((ANN, 5), (BOB, -5), (CY, 1))):
            refused(self, NoRows, book.post, 0, "a", wrong)
        same_kind(self, book.trial(0), {"eur": (("ann", 5), ("bob", -5))})

    def test_what_is_told_again(self):
        book = ready()
        before = whole(book)
        book.statement(ANN, 0, 99)[1].append((9, 9, "x", 9))
        book.statement(ANN, 0, 99)[1].clear()
        told = book.trial(99)
        told["eur"] = ()
        told.clear()
        self.assertEqual(whole(book), before)


class Models(unittest.TestCase):
    """Books led on by chance, against a look at all that was posted."""

    def look(self, book, ledger, chance):
        self.assertEqual(len(book), len(ledger.rows))
        days = sorted({0, 9999, *[chance.randint(0, 60) for _ in range(4)]})
        for account in chance.sample(ledger.accounts, 3):
            for day in days:
                same_kind(self, book.balance(account, day), ledger.balance(account, day))
            for first in days:
                for last in [day for day in days if day >= first]:
                    same_kind(self, asked(self, book.statement, account, first, last),
                              ledger.statement(account, first, last))
        for day in days:
            same_kind(self, asked(self, book.trial, day), ledger.trial(day))
            for code, rows in book.trial(day).items():
                self.assertEqual(sum(coins for word, coins in rows), 0)

    def lead(self, turn):
        chance = random.Random(turn)
        ledger = Ledger()
        ledger.accounts = chance.sample(MANY, 15)
        while any(sum(code == own for word, own in ledger.accounts) < 2 for code in CODES):
            ledger.accounts = chance.sample(MANY, 15)
        book = opened(*ledger.accounts)
        day = 0
        for number in range(25):
            day += chance.choice((0, 0, 1, 3))
            if ledger.rows and chance.random() < 0.3:
                turned = chance.randrange(number)
                same_kind(self, book.reverse(turned, day), number)
                rows = tuple((account, -coins) for account, coins in ledger.rows[turned][2])
                ledger.rows.append((day, "back", rows))
            else:
                rows = some_rows(chance, ledger.accounts, chance.sample(CODES, chance.choice((1, 1, 2))))
                same_kind(self, book.post(day, f"turn {number}", rows), number)
                ledger.rows.append((day, f"turn {number}", rows))
            same_kind(self, book.posting(number), ledger.rows[number])
            if number % 5 == 0:
                self.look(book, ledger, chance)
        return book, ledger, chance

    def test_by_chance(self):
        for turn in range(12):
            book, ledger, chance = self.lead(turn)
            self.look(book, ledger, chance)

    def test_each_statement_begins_where_the_one_ahead_ends(self):
        book, ledger, chance = self.lead(99)
        for account in ledger.accounts:
            ends = [0]
            rows = []
            for first, last in ((0, 4), (5, 5), (6, 20), (21, 21), (22, 9999)):
                begin, own, end = book.statement(account, first, last)
                self.assertEqual(begin, ends[-1])
                self.assertEqual(end, begin + sum(row[3] for row in own))
                ends.append(end)
                rows += own
            self.assertEqual(book.statement(account, 0, 9999), (0, rows, ends[-1]))


class Statements(unittest.TestCase):
    def test_by_hand(self):
        book = ready()
        for first, last, told in (
                (0, 9999, (0, [(0, 3, "first", 5), (1, 3, "second", -2), (2, 10, "third", 7)], 10)),
                (0, 2, (0, [], 0)), (0, 3, (0, [(0, 3, "first", 5), (1, 3, "second", -2)], 3)),
                (3, 3, (0, [(0, 3, "first", 5), (1, 3, "second", -2)], 3)), (4, 9, (3, [], 3)), (4, 4, (3, [], 3)),
                (9, 10, (3, [(2, 10, "third", 7)], 10)), (10, 10, (3, [(2, 10, "third", 7)], 10)),
                (11, 11, (10, [], 10)), (9999, 9999, (10, [], 10)), (0, 0, (0, [], 0))):
            same_kind(self, asked(self, book.statement, ANN, first, last), told)

    def test_last_ahead_of_first(self):
        book = ready()
        for first, last in ((1, 0), (9999, 0), (10, 9)):
            refused(self, NoDay, book.statement, ANN, first, last)

    def test_balances(self):
        book = ready()
        for day, held in ((0, 0), (2, 0), (3, -5), (9, -5), (10, -12), (9999, -12)):
            same_kind(self, asked(self, book.balance, BOB, day), held)

    def test_trial(self):
        book = ready()
        same_kind(self, asked(self, book.trial, 2), {"chf": (), "eur": (), "jpy": ()})
        same_kind(self, asked(self, book.trial, 3), {"chf": (), "eur": (("ann", 3), ("bob", -5), ("cy", 2)), "jpy": ()})
        book.reverse(1, 10)
        same_kind(self, book.trial(10), {"chf": (), "eur": (("ann", 12), ("bob", -12)), "jpy": ()})


class Twins(unittest.TestCase):
    def test_a_twin_led_on_by_itself(self):
        book = ready()
        before = whole(book)
        twin = book.twin()
        self.assertIsInstance(twin, Book)
        self.assertTrue(twin == book and not twin != book)
        self.assertEqual(whole(twin), before)
        twin.begin(DAN)
        twin.post(10, "more", ((ANN, 1), (DAN, -1)))
        twin.reverse(0, 12)
        self.assertEqual(whole(book), before)
        led = whole(twin)
        book.post(11, "other", ROWS)
        self.assertEqual(whole(twin), led)
        self.assertTrue(twin != book and not twin == book)
        refused(self, NoAccount, book.balance, DAN, 0)

    def test_a_twin_of_a_fresh_book(self):
        book = Book(RULES)
        twin = book.twin()
        twin.begin(ANN)
        self.assertEqual(book.accounts(), [])
        self.assertTrue(book.twin() == Book(RULES))


class Equals(unittest.TestCase):
    def test_orders_of_opening(self):
        like(self, opened(ANN, BOB), opened(BOB, ANN))
        like(self, opened(ANN, BOB, YEN), opened(YEN, BOB, ANN))
        unlike(self, opened(ANN, BOB), opened(ANN))
        unlike(self, opened(ANN, BOB), opened(ANN, CY))
        unlike(self, Book(RULES), opened(ANN))

    def test_rules(self):
        for rules in OTHER_RULES:
            unlike(self, Book(RULES), Book(rules))
            like(self, Book(rules), Book(rules))

    def test_postings(self):
        like(self, ready(), ready())
        for lead in (lambda book: book.post(10, "more", ROWS), lambda book: book.reverse(0, 10),
                     lambda book: book.begin(DAN)):
            one, other = ready(), ready()
            lead(one)
            unlike(self, one, other)
            lead(other)
            like(self, one, other)
        for day, text, rows in ((1, "a", ROWS), (0, "b", ROWS), (0, "a", ((ANN, 4), (BOB, -4)))):
            one, other = opened(ANN, BOB), opened(ANN, BOB)
            one.post(0, "a", ROWS)
            other.post(day, text, rows)
            unlike(self, one, other)

    def test_other_orders_of_postings(self):
        one, other = opened(ANN, BOB), opened(ANN, BOB)
        for text in ("a", "b"):
            one.post(0, text, ROWS)
        for text in ("b", "a"):
            other.post(0, text, ROWS)
        unlike(self, one, other)

    def test_turned_back_is_as_posted_back(self):
        one, other = opened(ANN, BOB), opened(ANN, BOB)
        for book in (one, other):
            book.post(0, "a", ROWS)
        one.reverse(0, 1)
        other.post(1, "back", ((ANN, -5), (BOB, 5)))
        like(self, one, other)

    def test_things_of_other_kinds(self):
        for thing in NEITHER + (0, RULES, "Book(0 accounts, 0 postings)", [Book(RULES)], object(), Book):
            unlike(self, Book(RULES), thing)

    def test_len_and_repr(self):
        for book, many, told in (
                (Book(RULES), 0, "Book(0 accounts, 0 postings)"), (opened(ANN), 0, "Book(1 accounts, 0 postings)"),
                (opened(ANN, BOB), 0, "Book(2 accounts, 0 postings)"), (ready(), 3, "Book(5 accounts, 3 postings)")):
            same_kind(self, len(book), many)
            self.assertEqual(repr(book), told)


class Refusals(unittest.TestCase):
    def setUp(self):
        self.book = ready()
        self.before = whole(self.book)

    def tearDown(self):
        self.assertEqual(whole(self.book), self.before)

    def test_no_rules(self):
        for thing in NO_RULES:
            refused(self, NoRules, Book, thing)
            refused(self, NoRules, Book, rules=thing)

    def test_no_day(self):
        for thing in NO_DAYS:
            refused(self, NoDay, self.book.post, thing, "a", ROWS)
            refused(self, NoDay, self.book.reverse, 0, thing)
            refused(self, NoDay, self.book.balance, ANN, thing)
            refused(self, NoDay, self.book.statement, ANN, thing, 9999)
            refused(self, NoDay, self.book.statement, ANN, 0, thing)
            refused(self, NoDay, self.book.trial, thing)

    def test_no_text(self):
        for thing in NO_TEXTS:
            refused(self, NoText, self.book.post, 10, thing, ROWS)

    def test_no_number(self):
        for thing in NO_NUMBERS + (3, 4):
            refused(self, NoNumber, self.book.posting, thing)
            refused(self, NoNumber, self.book.reverse, thing, 10)
        for thing in (0, 1) + TRUTHS:
            refused(self, NoNumber, Book(RULES).posting, thing)

    def test_no_rows(self):
        for thing in NEITHER + (
                0, "rows", ROWS[:1], ROWS + ((CY, 1),), list(ROWS), ROWS[::-1], ROWS * 2, (ROWS[0], ROWS[0]), (ROWS,),
                ((ANN, 5), (BOB, -4)), ((ANN, 0), (BOB, 0)), ((ANN, 5), (BOB, -5), (CY, 0)), ((ANN, 5), (DAN, -5)),
                ((ANN, 5), (ANN, -5)), ((ANN, -5), (ANN, 5)), ((ANN, 5), (BOB, -5), (BOB, 0)), dict(ROWS),
                ((ANN, 2), (BOB, -1), (BOB, -1)), ((ANN, 1), (ANN, 1), (BOB, -2)), ((ANN, True), (BOB, -1)),
                ((ANN, "5"), (BOB, -5)), ((ANN, None), (BOB, -5)), ((ANN, [5]), (BOB, -5)), ((ANN,), (BOB,)),
                ((ANN, 5, 0), (BOB, -5, 0)), ([ANN, 5], [BOB, -5]), ((list(ANN), 5), (list(BOB), -5)),
                ((FRANCS, 5), (ANN, -5)), ((ANN, 5), (YEN, -5)), (("ann", 5), ("bob", -5)), {}, ((5, ANN), (-5, BOB)),
                ((("ann", "usd"), 5), (("bob", "usd"), -5)), (ANN, BOB), ((ANN, 5), (BOB, -5, 5))):
            refused(self, NoRows, self.book.post, 10, "a", thing)
        for thing in NO_ACCOUNTS:
            refused(self, NoRows, self.book.post, 10, "a", ((ANN, 5), (thing, -5)))
            refused(self, NoRows, self.book.post, 10, "a", ((thing, 5), (BOB, -5)))
            refused(self, NoRows, self.book.post, 10, "a", ((ANN, 5), (BOB, -5), thing))

    def test_the_one_further_to_the_left_first(self):
        for wrong in (None, True, (), [], {}):
            refused(self, NoDay, self.book.post, wrong, wrong, wrong)
            refused(self, NoDay, self.book.post, 10000, "a", ROWS)
            refused(self, NoText, self.book.post, 10, wrong, wrong)
            refused(self, NoText, self.book.post, 0, wrong, ROWS)
            refused(self, NoText, self.book.post, rows=wrong, text="A", day=0)
            refused(self, NoRows, self.book.post, 0, "a", wrong)
            refused(self, NoNumber, self.book.reverse, wrong, wrong)
            refused(self, NoNumber, self.book.reverse, 3, 0)
            refused(self, NoDay, self.book.reverse, 0, wrong)
            refused(self, NoAccount, self.book.balance, wrong, wrong)
            refused(self, NoAccount, self.book.balance, DAN, -1)
            refused(self, NoAccount, self.book.statement, wrong, wrong, wrong)
            refused(self, NoAccount, self.book.statement, DAN, 5, 4)
            refused(self, NoDay, self.book.statement, ANN, wrong, 0)
            refused(self, NoDay, self.book.statement, ANN, 0, wrong)
        refused(self, Early, self.book.post, 9, "a", ROWS)
        refused(self, Early, self.book.reverse, 2, 9)
        refused(self, NoAccount, self.book.begin, ("ann", "usd"))
        refused(self, Open, self.book.begin, ANN)


class ByName(unittest.TestCase):
    def test_by_name(self):
        book = Book(rules=RULES)
        for account in (ANN, BOB):
            self.assertIsNone(book.begin(account=account))
        same_kind(self, book.post(rows=ROWS, text="a", day=1), 0)
        same_kind(self, book.reverse(day=2, number=0), 1)
        same_kind(self, book.posting(number=1), (2, "back", ((ANN, -5), (BOB, 5))))
        same_kind(self, book.balance(day=1, account=ANN), 5)
        same_kind(self, book.statement(last=2, first=2, account=ANN), (5, [(1, 2, "back", -5)], 0))
        same_kind(self, book.trial(day=1), {"chf": (), "eur": (("ann", 5), ("bob", -5)), "jpy": ()})

    def test_each_method_stands_in_the_class_itself(self):
        for name in ("begin", "post", "reverse", "accounts", "posting", "balance", "statement", "trial", "twin",
                     "__len__", "__eq__", "__repr__"):
            self.assertIn(name, vars(Book))


if __name__ == "__main__":
    unittest.main()

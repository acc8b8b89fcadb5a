"""Books of accounts: what is posted, and what stands on them at a day."""

from coinlaw.days import is_day, refuse_no_day
from coinlaw.errors import Early, NoAccount, NoBook, NoDay, NoNumber, NoRows, NoText, Open
from coinlaw.kinds import is_rising, is_tuple_of, is_whole, is_within, is_word
from coinlaw.rules import codes_of, refuse_no_rules

TEXT_SIGNS = "abcdefghijklmnopqrstuvwxyz0123456789 "


class Book:
    """Accounts of the rules' currencies, and postings to them."""

    def __init__(self, rules):
        refuse_no_rules(rules)
        self.rules = rules
        self.posted = []
        # Of each open account rows (number, day, coins, balance), so that no balance needs a look at all postings.
        self.entries = {}

    def begin(self, account):
        """Opens an account."""
        if not is_account(account, codes_of(self.rules)):
            raise NoAccount("an account is a tuple of a word and one of the rules' codes")
        if account in self.entries:
            raise Open("the account is open already")
        self.entries[account] = []

    def post(self, day, text, rows):
        """Posts rows of (account, coins); told is the posting's number."""
        refuse_no_day(day)
        if not is_text(text):
            raise NoText("a text has one to twenty signs: small letters, figures and blanks")
        if not are_rows(rows, codes_of(self.rules)) or not all([account in self.entries for account, coins in rows]):
            raise NoRows("rows are a rising tuple of two to twelve open accounts with coins, of each code together 0")
        self.refuse_early(day)
        return self.enter(day, text, rows)

    def reverse(self, number, day):
        """Posts the rows of a posting with the signs turned; told is the new posting's number."""
        self.refuse_no_number(number)
        refuse_no_day(day)
        self.refuse_early(day)
        rows = self.posted[number][2]
        return self.enter(day, "back", tuple([(account, -coins) for account, coins in rows]))

    def enter(self, day, text, rows):
        """As post, of what nothing is refused of any more."""
        number = len(self.posted)
        self.posted.append((day, text, rows))
        for account, coins in rows:
            entries = self.entries[account]
            held = entries[-1][3] if entries else 0
            entries.append((number, day, coins, held + coins))
        return number

    def cut(self, accounts, postings):
        """Makes the book what it was with so many accounts and so many postings."""
        while len(self.posted) > postings:
            day, text, rows = self.posted.pop()
            for account, coins in rows:
                self.entries[account].pop()
        # A dict keeps its order, so those that were opened last stand last.
        for account in list(self.entries)[accounts:]:
            del self.entries[account]

    def accounts(self):
        """The open accounts, rising."""
        return sorted(self.entries)

    def posting(self, number):
        """(day, text, rows) of the posting with the number."""
        self.refuse_no_number(number)
        return self.posted[number]

    def balance(self, account, day):
        """The sum of what was posted to an account up to a day."""
        self.refuse_closed(account)
        refuse_no_day(day)
        return held_at(self.entries[account], day)

    def statement(self, account, first, last):
        """What was posted to an account from a day to another one: (begin, rows, end)."""
        self.refuse_closed(account)
        refuse_no_day(first)
        refuse_no_day(last)
        if last < first:
            raise NoDay("the last day is ahead of the first one")
        entries = self.entries[account]
        between = entries[many_up_to(entries, first - 1):many_up_to(entries, last)]
        rows = [(number, day, self.posted[number][1], coins) for number, day, coins, held in between]
        return held_at(entries, first - 1), rows, held_at(entries, last)

    def trial(self, day):
        """For each code all (word, balance) at a day whose balance is not 0."""
        refuse_no_day(day)
        return {code: self.standing(code, day) for code in codes_of(self.rules)}

    def standing(self, code, day):
        held = [(account[0], held_at(self.entries[account], day)) for account in self.accounts() if account[1] == code]
        return tuple([row for row in held if row[1] != 0])

    def twin(self):
        """Another book as this one is."""
        other = Book(self.rules)
        other.posted = list(self.posted)
        other.entries = {account: list(entries) for account, entries in self.entries.items()}
        return other

    def refuse_no_number(self, thing):
        if not is_within(thing, 0, len(self.posted) - 1):
            raise NoNumber("no posting has such a number")

    def refuse_closed(self, thing):
        # Only an account may be looked up: what holds a list or a dict can't be.
        if not is_account(thing, codes_of(self.rules)) or thing not in self.entries:
            raise NoAccount("no such account is open")

    def refuse_early(self, day):
        if self.posted and day < self.posted[-1][0]:
            raise Early("the day is ahead of the last posting's")

    def __len__(self):
        return len(self.posted)

    def __eq__(self, other):
        if not isinstance(other, Book):
            return False
        return self.rules == other.rules and self.accounts() == other.accounts() and self.posted == other.posted

    def __repr__(self):
        return f"Book({len(self.entries)} accounts, {len(self.posted)} postings)"


def refuse_no_book(thing):
    if not isinstance(thing, Book):
        raise NoBook("that is no Book")


def is_account(thing, codes):
    """Whether thing is an account of one of the codes, open or not."""
    if not is_tuple_of(thing, 2, 2):
        return False
    word, code = thing
    return is_word(word) and code in codes


def is_text(thing):
    if not isinstance(thing, str) or not 1 <= len(thing) <= 20:
        return False
    return all([sign in TEXT_SIGNS for sign in thing])


def are_rows(thing, codes):
    """Whether thing is rows of a posting to accounts of the codes, open or not."""
    if not is_tuple_of(thing, 2, 12) or not all([is_row(row, codes) for row in thing]):
        return False
    # Rows with unlike accounts rise just where their accounts do.
    return is_rising([row[0] for row in thing]) and all([sum_of(thing, code) == 0 for code in codes])


def is_row(thing, codes):
    if not is_tuple_of(thing, 2, 2):
        return False
    account, coins = thing
    return is_account(account, codes) and is_whole(coins) and coins != 0


def sum_of(rows, code):
    return sum([coins for account, coins in rows if account[1] == code])


def are_postings(thing, codes):
    """Whether thing is a list of postings that could have been made one behind the other."""
    if not isinstance(thing, list) or not all([is_posting(posting, codes) for posting in thing]):
        return False
    days = [posting[0] for posting in thing]
    return days == sorted(days)


def is_posting(thing, codes):
    if not is_tuple_of(thing, 3, 3):
        return False
    day, text, rows = thing
    return is_day(day) and is_text(text) and are_rows(rows, codes)


def held_at(entries, day):
    """The balance at a day."""
    many = many_up_to(entries, day)
    return entries[many - 1][3] if many else 0


def many_up_to(entries, day):
    """How many of an account's entries are of the day or ahead of it."""
    # Their days never fall, so halving finds the first one behind the day.
    least = 0
    most = len(entries)
    while least < most:
        middle = (least + most) // 2
        if entries[middle][1] <= day:
            least = middle + 1
        else:
            most = middle
    return least

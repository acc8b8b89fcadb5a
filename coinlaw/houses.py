"""A house in which people's money goes on day by day."""

from coinlaw.bills import billed
from coinlaw.books import Book
from coinlaw.days import MONTH_DAYS, is_day
from coinlaw.errors import NoCoins, NoDays, NoMonths, NoPerson, NoRoad, Nothing, Open, Over, Short
from coinlaw.fractions import plus
from coinlaw.interest import interest, refuse_no_part
from coinlaw.kinds import is_within, is_word
from coinlaw.loans import interest_on, plan_of
from coinlaw.roads import along, end_of, is_road
from coinlaw.roundings import rounded
from coinlaw.rules import codes_of, custom_at, refuse_no_code, refuse_no_rules

KEEPERS = ("world", "house", "change", "tax")
NOUGHT = (0, 1)


class House:
    """People's accounts, their deeds, and what the days bring."""

    def __init__(self, rules, part):
        refuse_no_rules(rules)
        refuse_no_part(part)
        self.rules = rules
        self.part = part
        self.day = 0
        self.kept = Book(rules)
        for word in KEEPERS:
            for code in codes_of(rules):
                self.kept.begin((word, code))
        # These three are never changed, only put anew: so the marks of earlier ones stay as they were.
        self.loans = ()
        self.overs = {}
        self.rests = {}
        self.deeds = []
        self.marks = []

    def join(self, person, code):
        """Opens an account of a person."""
        self.refuse_no_name(person, code)
        if (person, code) in self.kept.accounts():
            raise Open("the person has an account of the code already")
        self.note(("join", person, code))
        self.kept.begin((person, code))

    def bring(self, person, code, coins):
        """Coins come to a person from the world."""
        self.refuse_no_name(person, code)
        refuse_no_coins(coins)
        self.refuse_no_account(person, code)
        self.note(("bring", person, code, coins))
        self.move("bring", "world", person, code, coins)

    def take(self, person, code, coins):
        """Coins go from a person to the world."""
        self.refuse_no_name(person, code)
        refuse_no_coins(coins)
        self.refuse_no_account(person, code)
        self.refuse_short(person, code, coins)
        self.note(("take", person, code, coins))
        self.move("take", person, "world", code, coins)

    def give(self, one, other, code, coins):
        """Coins go from one person to another one."""
        refuse_no_person(one)
        self.refuse_no_name(other, code)
        refuse_no_coins(coins)
        self.refuse_no_two(one, other, code)
        self.refuse_short(one, code, coins)
        self.note(("give", one, other, code, coins))
        self.move("give", one, other, code, coins)

    def swap(self, person, road, coins):
        """A person's coins go along a road; told is what comes in the end."""
        refuse_no_person(person)
        if not is_road(self.rules, self.day, road) or road[0] == road[-1]:
            raise NoRoad("a road to swap along is a road of the day that ends in another code than it begins in")
        refuse_no_coins(coins)
        first = road[0]
        last = road[-1]
        self.refuse_no_account(person, first)
        self.refuse_no_account(person, last)
        self.refuse_short(person, first, coins)
        self.note(("swap", person, road, coins))
        paper = along(self.rules, self.day, coins, road)
        for row in paper:
            self.keep_rest(row[1], row[5])
        end = end_of(paper)
        there = [((person, first), -coins), (("change", first), coins)]
        self.write("swap", there + [((person, last), end), (("change", last), -end)])
        return end

    def sell(self, seller, buyer, code, lines, *, per="line"):
        """A seller bills a buyer; told is the whole."""
        refuse_no_person(seller)
        self.refuse_no_name(buyer, code)
        rows, bare, tax, whole = billed(self.rules, (self.day, code, lines), per=per)
        self.refuse_no_two(seller, buyer, code)
        self.refuse_short(buyer, code, whole)
        self.note(("sell", seller, buyer, code, lines, per))
        for row in rows:
            self.keep_rest(code, row[4])
        self.write("sell", [((buyer, code), -whole), ((seller, code), bare), (("tax", code), tax)])
        return whole

    def lend(self, person, code, coins, months):
        """The house lends coins to a person, to be paid back by the months."""
        self.refuse_no_name(person, code)
        refuse_no_coins(coins)
        if not is_within(months, 1, 60):
            raise NoMonths("the months of a loan are a whole number from 1 to 60")
        self.refuse_no_account(person, code)
        self.note(("lend", person, code, coins, months))
        top, bottom = self.part
        loan = (coins, top, bottom, months, custom_at(self.rules, self.day))
        self.loans = (*self.loans, (person, code, loan, plan_of(loan), 0))
        self.move("lend", "house", person, code, coins)

    def on(self, days):
        """So many days go by, one by one."""
        if not is_within(days, 0, 400):
            raise NoDays("the days to go by are a whole number from 0 to 400")
        if not is_day(self.day + days):
            raise Over("a day beyond 9,999 would come")
        self.note(("on", days))
        for gone in range(days):
            self.day += 1
            if self.day % MONTH_DAYS == 0:
                self.grow()
                self.pay()

    def grow(self):
        """Each person's account gets its interest for the month ahead of the day, in whole coins."""
        overs = {}
        accounts = self.personal()
        for person, code in accounts:
            earned = interest(self.kept, (person, code), self.day - MONTH_DAYS, self.day - 1, self.part)
            top, bottom = plus(earned, self.overs.get((person, code), NOUGHT))
            grown, rest = rounded(top, bottom, "down")
            overs[(person, code)] = rest
            self.move("grow", "house", person, code, grown)
        self.overs = overs

    def pay(self):
        """The next payment of each loan that has one."""
        for person, code, loan, plan, paid in self.loans:
            if paid < len(plan):
                told, rest = interest_on(loan, still_owed(loan, plan, paid))
                self.keep_rest(code, rest)
                self.move("loan", person, "house", code, plan[paid][0])
        self.loans = tuple([behind_payment(lent) for lent in self.loans])

    def undo(self):
        """The last deed that stands is as never done."""
        if not self.deeds:
            raise Nothing("no deed stands")
        accounts, postings, day, loans, overs, rests = self.marks.pop()
        self.deeds.pop()
        self.kept.cut(accounts, postings)
        self.day = day
        self.loans = loans
        self.overs = overs
        self.rests = rests

    def today(self):
        return self.day

    def balance(self, word, code):
        """What stands on an account, be it of a person or of the house's own four words."""
        if not is_word(word):
            raise NoPerson("a word has one to eight small letters")
        refuse_no_code(self.rules, code)
        self.refuse_no_account(word, code)
        return self.held(word, code)

    def owed(self, person, code):
        """What is still owed by a person's loans of the code."""
        self.refuse_no_name(person, code)
        self.refuse_no_account(person, code)
        own = [lent for lent in self.loans if lent[:2] == (person, code)]
        return sum([still_owed(loan, plan, paid) for word, name, loan, plan, paid in own])

    def book(self):
        """A book of its own as the house's is now."""
        return self.kept.twin()

    def left_over(self, person, code):
        """What was left over of an account's interest when coins were last made of it."""
        self.refuse_no_name(person, code)
        self.refuse_no_account(person, code)
        return self.overs.get((person, code), NOUGHT)

    def rested(self, code):
        """The sum of all rests of a currency so far."""
        refuse_no_code(self.rules, code)
        total = self.rests.get(code, NOUGHT)
        for account, over in self.overs.items():
            if account[1] == code:
                total = plus(total, over)
        return total

    def log(self):
        """The deeds that stand, each with what it was handed."""
        return list(self.deeds)

    def twin(self):
        """Another house as this one is, with what can be undone."""
        other = House(self.rules, self.part)
        other.day = self.day
        other.kept = self.kept.twin()
        other.loans = self.loans
        other.overs = self.overs
        other.rests = self.rests
        other.deeds = list(self.deeds)
        other.marks = list(self.marks)
        return other

    def note(self, deed):
        """Logs a deed that is not refused any more, with a mark of what stands ahead of it."""
        accounts = len(self.kept.accounts())
        self.marks.append((accounts, len(self.kept), self.day, self.loans, self.overs, self.rests))
        self.deeds.append(deed)

    def move(self, text, one, other, code, coins):
        """Posts coins of a code from one word to another one."""
        self.write(text, [((one, code), -coins), ((other, code), coins)])

    def write(self, text, rows):
        """Posts those rows whose coins are not 0, if there are any."""
        standing = sorted([row for row in rows if row[1] != 0])
        if standing:
            self.kept.post(self.day, text, tuple(standing))

    def keep_rest(self, code, rest):
        self.rests = {**self.rests, code: plus(self.rests.get(code, NOUGHT), rest)}

    def held(self, word, code):
        return self.kept.balance((word, code), self.day)

    def personal(self):
        """The accounts of people, rising."""
        return [account for account in self.kept.accounts() if account[0] not in KEEPERS]

    def people(self):
        return sorted(set([word for word, code in self.personal()]))

    def refuse_no_name(self, person, code):
        """Refuses what is no person, then what is no code, each by itself."""
        refuse_no_person(person)
        refuse_no_code(self.rules, code)

    def refuse_no_account(self, word, code):
        if (word, code) not in self.kept.accounts():
            raise NoPerson("there is no account of such a word and code")

    def refuse_no_two(self, one, other, code):
        if one == other:
            raise NoPerson("a person stands twice")
        self.refuse_no_account(one, code)
        self.refuse_no_account(other, code)

    def refuse_short(self, person, code, coins):
        if self.held(person, code) < coins:
            raise Short("the person's balance is less than that")

    def __len__(self):
        return len(self.deeds)

    def __eq__(self, other):
        if not isinstance(other, House):
            return False
        return self.rules == other.rules and self.part == other.part and self.deeds == other.deeds

    def __repr__(self):
        return f"House(day {self.day}, {len(self.people())} people, {len(self.deeds)} deeds)"


def refuse_no_person(thing):
    if not is_word(thing) or thing in KEEPERS:
        raise NoPerson("a person is a word, but none of world, house, change, tax")


def refuse_no_coins(thing):
    if not is_within(thing, 1, 100000000):
        raise NoCoins("coins are a whole number from 1 to 100,000,000")


def still_owed(loan, plan, paid):
    """What is owed of a loan behind so many payments of its plan."""
    return plan[paid - 1][3] if paid else loan[0]


def behind_payment(lent):
    """A loan of the house with one payment more made, where there is one more."""
    person, code, loan, plan, paid = lent
    return person, code, loan, plan, min(paid + 1, len(plan))

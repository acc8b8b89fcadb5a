"""[1] to [5] and [93] over the whole program, and the interface."""

import copy
import importlib
import inspect
import random
import unittest
from fractions import Fraction

from coinlaw import errors
from coinlaw.books import Book
from coinlaw.desk import Desk
from coinlaw.houses import House
from coinlaw.showings import is_showing, showing_of
from helpers import THIRTY, rate_by_look, same_kind
from test_bills import exact_tax
from test_houses import CODES, FOUR, PART, RULES, START, custom_by_look, do, done, led, plan_by_trying, whole
from test_loans import exact_interest
from test_showings import postings_of

# module: name, arguments, and the refusals that are told for it
FUNCTIONS = {
    "days": (("date_of", "day", "NoDay"), ("day_of", "date", "NoDate")),
    "rules": (("are_rules", "thing", ""),),
    "fractions": (("is_fraction", "thing", ""),),
    "roundings": (("rounded", "top, bottom, custom, *, step=1", "NoNumber NoCustom NoStep"),),
    "splits": (
        ("split", "coins, weights, *, way='greatest'", "NoCoins NoWeights NoWay"),
        ("is_fair", "coins, weights, thing", "NoCoins NoWeights")),
    "tables": (("whole_table", "table", "NoTable"), ("is_whole_table", "table, thing", "NoTable")),
    "rates": (("rate", "rules, day, one, other", "NoRules NoDay NoCode"),),
    "roads": (
        ("along", "rules, day, coins, road", "NoRules NoDay NoCoins NoRoad"),
        ("is_along", "rules, day, coins, road, thing", "NoRules NoDay NoCoins NoRoad"),
        ("worth", "rules, day, coins, road", "NoRules NoDay NoCoins NoRoad"),
        ("between", "rules, day, coins, road, other", "NoRules NoDay NoCoins NoRoad"),
        ("least_apart", "rules, day, road, other, most", "NoRules NoDay NoRoad NoCoins")),
    "rings": (("earns", "rules, day", "NoRules NoDay"), ("shows", "rules, day, thing", "NoRules NoDay")),
    "bills": (("billed", "rules, bill, *, per='line'", "NoRules NoBill NoPer"),),
    "bands": (
        ("banded", "bands, coins, *, custom='even'", "NoBands NoCoins NoCustom"),
        ("most_for", "bands, goal", "NoBands NoGoal")),
    "loans": (("plan_of", "loan", "NoLoan"), ("is_plan", "loan, thing", "NoLoan"), ("exact_cost", "loan", "NoLoan")),
    "interest": (("interest", "book, account, first, last, part", "NoBook NoAccount NoDay NoPart"),),
    "papers": (
        ("balance_paper", "book, account, day", "NoBook NoAccount NoDay"),
        ("is_balance_paper", "book, account, day, thing", "NoBook NoAccount NoDay")),
    "debts": (
        ("nets", "debts", "NoDebts"), ("cleared", "debts", "NoDebts"), ("do_clear", "debts, thing", "NoDebts"),
        ("are_lots", "debts, thing", "NoDebts")),
    "amounts": (
        ("amount_text", "rules, coins, code", "NoRules NoCoins NoCode"),
        ("read_amount", "rules, text", "NoRules NoText"),
        ("cash_of", "rules, coins, code, day", "NoRules NoCoins NoCode NoDay")),
    "showings": (
        ("showing_of", "house", "NoHouse"),
        ("is_showing", "rules, postings, day, thing", "NoRules NoPostings NoDay")),
}
METHODS = {
    "Book": (
        ("begin", "account", "NoAccount Open"), ("post", "day, text, rows", "NoDay NoText NoRows Early"),
        ("reverse", "number, day", "NoNumber NoDay Early"), ("accounts", "", ""), ("posting", "number", "NoNumber"),
        ("balance", "account, day", "NoAccount NoDay"), ("statement", "account, first, last", "NoAccount NoDay"),
        ("trial", "day", "NoDay"), ("twin", "", "")),
    "House": (
        ("join", "person, code", "NoPerson NoCode Open"), ("bring", "person, code, coins", "NoPerson NoCode NoCoins"),
        ("take", "person, code, coins", "NoPerson NoCode NoCoins Short"),
        ("give", "one, other, code, coins", "NoPerson NoCode NoCoins Short"),
        ("lend", "person, code, coins, months", "NoPerson NoCode NoCoins NoMonths"), ("on", "days", "NoDays Over"),
        ("undo", "", "Nothing"), ("swap", "person, road, coins", "NoPerson NoRoad NoCoins Short"),
        ("sell", "seller, buyer, code, lines, *, per='line'", "NoPerson NoCode NoBill NoPer Short"), ("today", "", ""),
        ("balance", "word, code", "NoPerson NoCode"), ("owed", "person, code", "NoPerson NoCode"), ("book", "", ""),
        ("left_over", "person, code", "NoPerson NoCode"), ("rested", "code", "NoCode"), ("log", "", ""),
        ("twin", "", "")),
    "Desk": (("say", "line", "NoLine"),),
}
CLASSES = {"Book": (Book, "rules"), "House": (House, "rules, part"), "Desk": (Desk, "rules, part")}


def function_named(module, name):
    return getattr(importlib.import_module("coinlaw." + module), name)


def ready_book():
    book = Book(RULES)
    for account in (("ann", "eur"), ("bob", "eur"), ("cy", "jpy")):
        book.begin(account)
    book.post(2, "a", ((("ann", "eur"), 5), (("bob", "eur"), -5)))
    return book


def ready_house():
    return done(START)


# of each name of an argument things that are right somewhere
KNOWN = {
    "rules": (RULES,), "day": (0, 2, 40, 9999), "date": ((0, 1, 1),), "top": (7, -7), "bottom": (2,), "step": (5,),
    "custom": ("even", "up"), "coins": (0, 1, 50), "weights": ((1, 2, 0),), "way": ("last", "running"),
    "table": ((2, ((1, 2), (3, 4))),), "one": ("eur", "ann"), "other": ("chf", "bob", ("chf", "eur"), ("eur", "jpy")),
    "road": (("chf", "eur"), ("eur", "jpy")), "most": (5,), "bill": ((0, "eur", (("food", 5, 1),)),), "per": ("sum",),
    "bands": (((0, 1, 5), (10, 1, 2)),), "goal": (9,), "loan": ((10, 5, 100, 3, "up"),), "account": (("ann", "eur"),),
    "first": (0, 2), "last": (2, 5), "part": (PART,), "debts": ((("ann", "bob", 5), ("bob", "cy", 2)), ()),
    "code": ("eur", "jpy"), "text": ("0.05 eur", "a"), "number": (0,), "person": ("ann", "bob", "new"),
    "word": ("tax",), "postings": ([(0, "a", ((("ann", "eur"), 5), (("bob", "eur"), -5)))], []), "months": (3,),
    "days": (1,), "rows": (((("ann", "eur"), 5), (("bob", "eur"), -5)),), "seller": ("ann",), "buyer": ("bob",),
    "lines": ((("food", 5, 1),),), "line": ("today", "join dan eur", "bring ann 5.00 eur"),
    "thing": (RULES, (1, 2), (0,), (), {}, (("ann", "bob", 5),), ("prices", ((1, 1), (20, 21), (1, 168))),
              {("ann", "eur"): ((0,), 5), ("bob", "eur"): ((0,), -5)}),
}
WORDS = (
    "ann", "bob", "eur", "chf", "line", "even", "on", "within", "ring", "prices", "today", "join ann eur", "0.05 eur",
)


def anything(chance, deep=0):
    """Something made of numbers, truths, None, texts, lists, tuples and dicts."""
    sort = chance.randrange(9 if deep < 6 else 5)
    if sort == 0:
        return chance.choice((0, 1, -1, 2, 5, 30, 100, 9999, 10000, 10 ** 8, THIRTY, -THIRTY))
    if sort == 1:
        return chance.choice((True, False, None))
    if sort == 2:
        return chance.choice(WORDS)
    if sort == 3:
        return "".join(chance.choice("abcz09 .-:~\t\nAZ_") for _ in range(chance.choice((0, 1, 3, 8, 30, 400))))
    if sort == 4:
        return chance.choice((RULES, PART, ("ann", "eur"), ("eur", "chf"), (("food", 5, 1),), (0, 1, 1)))
    parts = [anything(chance, deep + 1) for _ in range(chance.randrange(5))]
    if sort == 5:
        return parts
    if sort == 6:
        return {repr(part) if chance.random() < 0.5 else at: part for at, part in enumerate(parts)}
    return tuple(parts)


def bent(chance, thing):
    """The thing with something otherwise somewhere."""
    if isinstance(thing, (tuple, list)) and thing and chance.random() < 0.8:
        at = chance.randrange(len(thing))
        kind = type(thing)
        new = chance.choice(([bent(chance, thing[at])], [], [thing[at], thing[at]], [anything(chance, 3)]))
        return kind(list(thing[:at]) + new + list(thing[at + 1:]))
    if isinstance(thing, dict) and thing and chance.random() < 0.8:
        key = chance.choice(list(thing))
        return {**thing, key: bent(chance, thing[key])}
    if isinstance(thing, int) and chance.random() < 0.5:
        return thing + chance.choice((-1, 1))
    return anything(chance, 3)


def arguments(chance, listed):
    """Things by their names: right ones, bent ones, or anything."""
    told = {}
    for name in [part.split("=")[0] for part in listed.split(", ") if part not in ("", "*")]:
        thing = chance.choice(KNOWN.get(name, ("",)))
        luck = chance.random()
        told[name] = thing if luck < 0.6 else bent(chance, thing) if luck < 0.8 else anything(chance)
    return told


class Interface(unittest.TestCase):
    def look(self, function, listed):
        names = [part for part in str(inspect.signature(function))[1:-1].split(", ") if part and part != "self"]
        self.assertEqual(", ".join(names), listed, function)

    def test_functions(self):
        for module, rows in FUNCTIONS.items():
            for name, listed, refusals in rows:
                self.look(function_named(module, name), listed)

    def test_methods(self):
        for name, rows in METHODS.items():
            own, listed = CLASSES[name]
            self.look(own.__init__, listed)
            for method, things, refusals in rows:
                self.look(vars(own)[method], things)

    def test_modules_of_the_classes(self):
        for module, name in (("books", "Book"), ("houses", "House"), ("desk", "Desk")):
            self.assertIs(function_named(module, name), CLASSES[name][0])


class Anything(unittest.TestCase):
    """No error but those told, whatever of anything is handed in, and nothing is changed by it."""

    def try_it(self, function, listed, refusals, chance):
        things = arguments(chance, listed)
        before = copy.deepcopy(things)
        try:
            told = function(**things)
        except errors.CoinError as why:
            self.assertIn(type(why).__name__, refusals.split(), (function, things))
            told = type(why)
        self.assertEqual(repr(things), repr(before))
        return told

    def test_functions(self):
        for module, rows in FUNCTIONS.items():
            for name, listed, refusals in rows:
                function = function_named(module, name)
                chance = random.Random(name)
                if "book" in listed.split(", "):
                    listed = listed.replace("book, ", "")
                    book = ready_book()
                    before = book.twin()
                    for _ in range(300):
                        self.try_it(lambda **things: function(book, **things), listed, refusals, chance)
                    self.assertTrue(book == before)
                else:
                    told = [self.try_it(function, listed, refusals, chance) for _ in range(400)]
                    if name.startswith(("is_", "are_", "do_", "shows")):
                        self.assertLessEqual({type(thing) for thing in told}, {bool, type})

    def test_books(self):
        for name, listed, refusals in METHODS["Book"]:
            chance = random.Random(name)
            book = ready_book()
            for _ in range(300):
                before = book.twin()
                told = self.try_it(getattr(book, name), listed, refusals, chance)
                if isinstance(told, type) or name not in ("begin", "post", "reverse"):
                    self.assertTrue(book == before)

    def test_houses(self):
        for name, listed, refusals in METHODS["House"]:
            chance = random.Random(name)
            house = ready_house()
            for _ in range(120):
                before = whole(house)
                many = len(house)
                told = self.try_it(getattr(house, name), listed, refusals, chance)
                if isinstance(told, type) or len(house) == many:
                    self.assertEqual(whole(house), before)
                elif name != "undo":
                    house.undo()
                    self.assertEqual(whole(house), before)

    def test_desks(self):
        chance = random.Random(110)
        desk = Desk(RULES, PART)
        for _ in range(600):
            told = self.try_it(desk.say, "line", "NoLine NoPerson Open", chance)
            self.assertIsInstance(told, (str, type))

    def test_makers(self):
        chance = random.Random(70)
        for name, (own, listed) in CLASSES.items():
            for _ in range(300):
                self.try_it(own, listed, "NoRules NoPart", chance)


def road_worth(day, coins, road):
    worth = Fraction(coins)
    for one, other in zip(road, road[1:]):
        worth *= rate_by_look(RULES, day, one, other)
    return worth


class Sums(unittest.TestCase):
    def test_each_posting_and_each_balance(self):
        for turn in range(10):
            log, part = led(turn)
            house = House(RULES, part)
            for deed in log:
                do(house, deed)
                held = {}
                for day, text, rows in postings_of(house):
                    for code in CODES:
                        self.assertEqual(sum(coins for account, coins in rows if account[1] == code), 0)
                    for account, coins in rows:
                        held[account] = held.get(account, 0) + coins
                for account in house.book().accounts():
                    self.assertEqual(house.balance(*account), held.get(account, 0))
                for code in CODES:
                    self.assertEqual(sum(coins for account, coins in held.items() if account[1] == code), 0)

    def test_told_and_rounded_away_are_the_exact(self):
        """By all that the house has told and posted, against what the rules of each day give."""
        for turn in range(15):
            log, part = led(turn)
            house = House(RULES, part)
            exact = {code: Fraction(0) for code in CODES}
            told = {code: Fraction(0) for code in CODES}
            loans = []
            for deed in log:
                day = house.today()
                since = len(house.book())
                answer = do(house, deed)
                if deed[0] == "sell":
                    exact[deed[3]] += sum(exact_tax(RULES, day, line)[0] for line in deed[4])
                elif deed[0] == "lend":
                    loan = (deed[3], *part, deed[4], custom_by_look(RULES, day))
                    loans.append((deed[1:3], loan, list(plan_by_trying(loan)), [deed[3]]))
                elif deed[0] == "on":
                    self.add_months(house, loans, range(day + 1, house.today() + 1), part, exact)
                for number in range(since, len(house.book())):
                    self.add_told(house.book().posting(number), told)
                if deed[0] == "swap":
                    self.add_swap(day, deed, answer, exact, told)
            for code in CODES:
                # what is paid back is no interest
                back = sum(loan[0] - owed[-1] for account, loan, plan, owed in loans if account[1] == code)
                same_kind(self, Fraction(*house.rested(code)), exact[code] + back - told[code])

    def add_told(self, posting, told):
        day, text, rows = posting
        for (word, code), coins in rows:
            if (text, word) == ("sell", "tax") or (text, word) == ("loan", "house"):
                told[code] += coins
            elif text == "grow" and word not in FOUR:
                told[code] += coins

    def add_months(self, house, loans, days, part, exact):
        book = house.book()
        for day in days:
            if day % 30 == 0:
                for account in book.accounts():
                    if account[0] not in FOUR:
                        held = sum(max(0, book.balance(account, one)) for one in range(day - 30, day))
                        exact[account[1]] += Fraction(held * part[0], part[1] * 360)
                for account, loan, plan, owed in loans:
                    if plan:
                        exact[account[1]] += exact_interest(loan, owed[-1])
                        owed.append(plan.pop(0)[3])

    def add_swap(self, day, deed, answer, exact, told):
        word, person, road, coins = deed
        held = coins
        for at in range(1, len(road)):
            # by one step each from what came to it
            step = road[at - 1:at + 1]
            worth = road_worth(day, held, step)
            exact[step[1]] += worth
            held = self.rounded_by_rule(day, worth)
            told[step[1]] += held
        self.assertEqual(held, answer)

    def rounded_by_rule(self, day, worth):
        low = worth.numerator // worth.denominator
        custom = custom_by_look(RULES, day)
        if worth == low or custom == "down":
            return low
        return low + 1 if custom == "up" else round(worth)

    def test_showings_and_twins_of_the_same(self):
        for turn in range(5):
            log, part = led(turn)
            house = done(log, part=part)
            twin = house.twin()
            again = done(house.log(), part=part)
            for other in (twin, again):
                self.assertEqual(showing_of(other), showing_of(house))
                self.assertEqual(whole(other), whole(house))
            while len(twin):
                twin.undo()
                self.assertIs(is_showing(RULES, postings_of(twin), twin.today(), showing_of(twin)), True)

    def test_two_houses_have_nothing_in_common(self):
        logs = [led(0)[0], led(5)[0], led(10)[0]]
        part = led(0)[1]
        houses = [House(RULES, part) for _ in logs]
        for deeds in zip(*logs):
            for house, deed in zip(houses, deeds):
                do(house, deed)
        for house, log in zip(houses, logs):
            self.assertEqual(whole(house), whole(done(log, part=part)))


if __name__ == "__main__":
    unittest.main()

"""[90] to [93], with [2] to [5] as far as they speak of houses."""

import functools
import math
import random
import unittest
from fractions import Fraction

from coinlaw.books import Book
from coinlaw.errors import (
    NoBill, NoCode, NoCoins, NoDays, NoMonths, NoPart, NoPer, NoPerson, NoRoad, NoRules, Nothing, Open, Over, Short,
)
from coinlaw.fractions import is_fraction
from coinlaw.houses import House
from helpers import NEITHER, NO_PARTS, NO_RULES, THIRTY, asked, like, pair, refused, same_kind, unlike
from test_bills import NO_LINES, by_hand as billed_by_hand
from test_loans import exact_interest, rows_by_hand
from test_roads import by_hand as along_by_hand

RULES = (
    (("chf", 2, 5), ("eur", 2, 1), ("jpy", 0, 1)),
    (("chf", "eur", 0, 21, 20), ("chf", "eur", 45, 1, 3), ("chf", "jpy", 40, 168, 1), ("eur", "jpy", 0, 160, 1),
     ("eur", "jpy", 9, 155, 2)),
    (("book", 0, 7, 100, "within"), ("food", 0, 5, 100, "on"), ("food", 31, 1, 3, "within"), ("free", 0, 0, 1, "on"),
     ("gold", 0, 1, 1, "on"), ("late", 50, 1, 8, "on")),
    ((0, "even"), (20, "up"), (61, "down")),
)
CODES = ("chf", "eur", "jpy")
PART = (12, 100)
PARTS = (PART, (0, 1), (100, 1), (1, 1000), (7, 90))
FOUR = ("change", "house", "tax", "world")
PEOPLE = ("ann", "bob", "cy", "zed")
MOST = 100000000
ROADS = (
    ("chf", "eur"), ("eur", "chf"), ("eur", "jpy"), ("jpy", "eur"), ("chf", "eur", "jpy"), ("jpy", "eur", "chf"),
    ("eur", "jpy", "eur", "chf"),
)
LINES = (("food", 110, 1), ("book", 1999, 2), ("food", 110, 1))

NO_PEOPLE = tuple(thing for thing in NEITHER if thing not in ("a", "abc")) + FOUR + (
    0, 1, "Ann", "abcdefghi", "an n", "ann1", "ann ", ("ann",), ["ann"], {"ann": 1}, ("ann", "eur"), "ann\n", THIRTY,
)
NO_CODES = NEITHER + ("usd", "EUR", "eu", "eur ", ("eur",), ["eur"], {"eur": 1}, 0, 5, "ann", THIRTY)
NO_COINS = NEITHER + (0, -1, MOST + 1, THIRTY, -THIRTY, "5", (5,), [5], {5: 5})
NO_ROADS = NEITHER + (
    ("eur",), ("eur", "eur"), ("eur", "usd"), ["eur", "chf"], "eurchf", ("chf", "jpy"), ("jpy", "chf"), ("eur", "EUR"),
    ("eur", "chf", "eur"), ("eur", "jpy", "eur"), ("eur", "chf", "eur", "chf", "eur", "chf", "eur"), 0,
    ("eur", "chf", "chf"), ("eur", None), (("eur", "chf"),), ("eur", ["chf"]), {"eur": "chf"}, ("eur", True),
    ("eur", "chf", "jpy"), ("eur", "chf", "eur", "jpy", "eur"),
)
NO_MONTHS = NEITHER + (0, -1, 61, THIRTY, "5", (5,), [5])
NO_DAYS = NEITHER + (-1, 401, THIRTY, -THIRTY, "5", (5,), [5])
NO_PERS = NEITHER + ("Line", "sums", ["line"], ("line",), 0, 1)


@functools.lru_cache(maxsize=None)
def plan_by_trying(loan):
    """The plan, by trying each payment from the least that could be enough without interest."""
    payment = max(1, loan[0] // loan[3])
    while rows_by_hand(loan, payment) is None:
        payment += 1
    return rows_by_hand(loan, payment)


def custom_by_look(rules, day):
    return ([custom for since, custom in rules[3] if since <= day] or ["even"])[-1]


class Model:
    """What a house should be, by plain looks at all that was posted."""

    def __init__(self, rules, part):
        self.rules = rules
        self.part = Fraction(*part)
        self.parts = part
        self.codes = [row[0] for row in rules[0]]
        self.day = 0
        self.accounts = {(word, code) for word in FOUR for code in self.codes}
        self.posted = []
        self.loans = []
        self.overs = {}
        self.rests = {code: Fraction(0) for code in self.codes}
        self.log = []

    def balance(self, account, day):
        return sum(rows.get(account, 0) for since, text, rows in self.posted if since <= day)

    def post(self, text, rows):
        rows = {account: coins for account, coins in rows.items() if coins}
        if rows:
            self.posted.append((self.day, text, rows))

    def people(self):
        return sorted(account for account in self.accounts if account[0] not in FOUR)

    def do(self, deed):
        """Does a deed that is right, and tells what the house should tell."""
        told = getattr(self, "do_" + deed[0])(*deed[1:])
        self.log.append(deed)
        return told

    def do_join(self, person, code):
        self.accounts.add((person, code))

    def do_bring(self, person, code, coins):
        self.post("bring", {(person, code): coins, ("world", code): -coins})

    def do_take(self, person, code, coins):
        self.post("take", {(person, code): -coins, ("world", code): coins})

    def do_give(self, one, other, code, coins):
        self.post("give", {(one, code): -coins, (other, code): coins})

    def do_swap(self, person, road, coins):
        paper = along_by_hand(self.rules, self.day, coins, road, custom_by_look(self.rules, self.day))
        for row in paper:
            self.rests[row[1]] += Fraction(*row[5])
        end = paper[-1][4]
        first, last = road[0], road[-1]
        self.post("swap", {(person, first): -coins, ("change", first): coins, (person, last): end,
                           ("change", last): -end})
        return end

    def do_sell(self, seller, buyer, code, lines, per):
        rows, bare, tax, whole = billed_by_hand(
            self.rules, (self.day, code, lines), per, custom_by_look(self.rules, self.day))
        for row in rows:
            self.rests[code] += Fraction(*row[4])
        self.post("sell", {(buyer, code): -whole, (seller, code): bare, ("tax", code): tax})
        return whole

    def do_lend(self, person, code, coins, months):
        loan = (coins, *self.parts, months, custom_by_look(self.rules, self.day))
        self.loans.append([(person, code), loan, list(plan_by_trying(loan)), coins])
        self.post("lend", {(person, code): coins, ("house", code): -coins})

    def do_on(self, days):
        for _ in range(days):
            self.day += 1
            if self.day % 30 == 0:
                self.begin_month()

    def begin_month(self):
        for account in self.people():
            held = [max(0, self.balance(account, day)) for day in range(self.day - 30, self.day)]
            exact = self.overs.get(account, 0) + sum(held) * self.part / 360
            self.overs[account] = exact - math.floor(exact)
            self.post("grow", {account: math.floor(exact), ("house", account[1]): -math.floor(exact)})
        for lent in self.loans:
            account, loan, plan, owed = lent
            if plan:
                payment, interest, back, left = plan.pop(0)
                self.rests[account[1]] += exact_interest(loan, owed) - interest
                lent[3] = left
                self.post("loan", {account: -payment, ("house", account[1]): payment})

    def owed(self, person, code):
        return sum(lent[3] for lent in self.loans if lent[0] == (person, code))

    def rested(self, code):
        return self.rests[code] + sum(over for account, over in self.overs.items() if account[1] == code)


def do(house, deed):
    """A deed of a log done by a house."""
    word, *things = deed
    if word == "sell":
        return house.sell(*things[:-1], per=things[-1])
    return getattr(house, word)(*things)


def done(deeds, rules=RULES, part=PART):
    house = House(rules, part)
    for deed in deeds:
        do(house, deed)
    return house


def whole(house):
    """All that a house tells."""
    book = house.book()
    accounts = book.accounts()
    people = [account for account in accounts if account[0] not in FOUR]
    return repr((
        house, len(house), house.today(), house.log(), accounts, [book.posting(at) for at in range(len(book))],
        [house.balance(*account) for account in accounts], [book.balance(account, 9999) for account in accounts],
        [house.owed(*account) for account in people], [house.left_over(*account) for account in people],
        [house.rested(code) for code in sorted(book.trial(0))],
    ))


def some_deed(chance, model):
    """A deed that is right, by chance."""
    people = model.people()
    word = chance.choice(("join", "bring", "bring", "take", "give", "swap", "swap", "sell", "sell", "lend", "on", "on"))
    missing = [(person, code) for person in PEOPLE for code in CODES if (person, code) not in people]
    if word == "join" or not people:
        return ("join", *chance.choice(missing)) if missing else ("on", 0)
    person, code = chance.choice(people)
    held = model.balance((person, code), model.day)
    others = [one for one, own in people if own == code and one != person]
    if word == "on":
        return "on", chance.choice((0, 1, 2, 7, 29, 30, 31, 45))
    if word == "bring":
        return "bring", person, code, chance.choice((1, 999, 10000, chance.randint(1, 99999)))
    if word == "lend":
        return "lend", person, code, chance.randint(1, 900), chance.choice((1, 2, 3, 6, 12))
    if word == "sell" and others:
        sorts = [row[0] for row in RULES[2] if row[1] <= model.day]
        lines = tuple((chance.choice(sorts), chance.choice((0, 1, 9, 50, 110)), chance.choice((1, 2, 3)))
                      for _ in range(chance.choice((1, 2, 5, 8))))
        deed = ("sell", chance.choice(others), person, code, lines, chance.choice(("line", "sum")))
        price = billed_by_hand(RULES, (model.day, code, lines), deed[5], custom_by_look(RULES, model.day))[3]
        return deed if price <= held else ("on", 1)
    if held < 1:
        return "bring", person, code, 500
    coins = chance.choice((1, held, chance.randint(1, held)))
    if word == "give" and others:
        return "give", person, chance.choice(others), code, coins
    if word == "swap":
        last = [own for one, own in people if one == person and own != code]
        roads = [road for road in ROADS if road[0] == code and road[-1] in last]
        if roads:
            return "swap", person, chance.choice(roads), min(coins, MOST)
    return "take", person, code, min(coins, MOST)


START = tuple(("join", person, code) for person in PEOPLE[:2] for code in CODES) + (
    ("bring", "ann", "eur", 50000), ("bring", "bob", "chf", 12345), ("bring", "bob", "eur", 777))


@functools.lru_cache(maxsize=None)
def led(turn, many=40):
    """A log of deeds by chance, and the part by which they were chosen."""
    chance = random.Random(turn)
    part = PARTS[turn % len(PARTS)]
    model = Model(RULES, part)
    for deed in START:
        model.do(deed)
    for _ in range(many):
        model.do(some_deed(chance, model))
    return tuple(model.log), part


class Looks(unittest.TestCase):
    def look(self, house, model):
        """All that the house tells is what the model tells."""
        same_kind(self, house.today(), model.day)
        same_kind(self, len(house), len(model.log))
        same_kind(self, house.log(), model.log)
        book = house.book()
        self.assertIsInstance(book, Book)
        self.assertEqual(book.accounts(), sorted(model.accounts))
        postings = [book.posting(number) for number in range(len(book))]
        same_kind(self, postings, [(day, text, tuple(sorted(rows.items()))) for day, text, rows in model.posted])
        for word, code in sorted(model.accounts):
            same_kind(self, house.balance(word, code), model.balance((word, code), model.day))
            if word not in FOUR:
                same_kind(self, house.owed(word, code), model.owed(word, code))
                same_kind(self, house.left_over(word, code), pair(Fraction(model.overs.get((word, code), 0))))
                self.assertTrue(is_fraction(house.left_over(word, code)))
        for code in model.codes:
            same_kind(self, house.rested(code), pair(model.rested(code)))
        people = len({word for word, code in model.people()})
        self.assertEqual(repr(house), f"House(day {model.day}, {people} people, {len(model.log)} deeds)")


class Models(Looks):
    def test_led_by_chance(self):
        for turn in range(24):
            log, part = led(turn)
            house, model = House(RULES, part), Model(RULES, part)
            self.look(house, model)
            for at, deed in enumerate(log):
                same_kind(self, do(house, deed), model.do(deed))
                if at % 8 == 0:
                    self.look(house, model)
            self.look(house, model)

    def test_all_sums_are_nought(self):
        for turn in range(8):
            log, part = led(turn)
            house = done(log, part=part)
            book = house.book()
            for day in (0, 1, 29, 30, 31, 60, house.today(), 9999):
                for code, rows in book.trial(day).items():
                    self.assertEqual(sum(coins for word, coins in rows), 0)
            for code in CODES:
                brought = sum(deed[3] for deed in log if deed[0] == "bring" and deed[2] == code)
                taken = sum(deed[3] for deed in log if deed[0] == "take" and deed[2] == code)
                self.assertEqual(-house.balance("world", code), brought - taken)

    def test_done_anew_by_its_log(self):
        for turn in range(8):
            log, part = led(turn)
            house = done(log, part=part)
            again = done(house.log(), part=part)
            self.assertTrue(again == house and not again != house)
            self.assertEqual(whole(again), whole(house))

    def test_undone_one_by_one(self):
        for turn in range(8):
            log, part = led(turn)
            house = House(RULES, part)
            befores = []
            for deed in log:
                befores.append(whole(house))
                do(house, deed)
                self.assertIsNone(house.undo())
                self.assertEqual(whole(house), befores[-1])
                do(house, deed)
            while befores:
                house.undo()
                self.assertEqual(whole(house), befores.pop())
            self.assertTrue(house == House(RULES, part))
            self.assertEqual(whole(house), whole(House(RULES, part)))
            refused(self, Nothing, house.undo)

    def test_undone_and_led_on_another_way(self):
        for turn in range(8):
            log, part = led(turn)
            other, _ = led(turn + len(PARTS))
            house = done(log, part=part)
            while len(house) > len(START):
                house.undo()
            for deed in other[len(START):]:
                do(house, deed)
            self.assertEqual(whole(house), whole(done(other, part=part)))

    def test_twins(self):
        for turn in range(6):
            log, part = led(turn)
            house = done(log[:30], part=part)
            before = whole(house)
            twin = house.twin()
            self.assertIsInstance(twin, House)
            self.assertTrue(twin == house and not twin != house)
            self.assertEqual(whole(twin), before)
            for deed in log[30:]:
                do(twin, deed)
            self.assertEqual(whole(house), before)
            self.assertEqual(whole(twin), whole(done(log, part=part)))
            led_on = whole(twin)
            for deed in log[30:40]:
                do(house, deed)
            while len(house):
                house.undo()
            self.assertEqual(whole(twin), led_on)
            while len(twin):
                twin.undo()
            self.assertEqual(whole(twin), whole(House(RULES, part)))
            refused(self, Nothing, twin.undo)


def two():
    """Ann with 1000 and bob with nothing, both in each currency."""
    house = done([("join", person, code) for person in ("ann", "bob") for code in CODES])
    for code in CODES:
        house.bring("ann", code, 1000)
    return house


def last_posting(house):
    book = house.book()
    return book.posting(len(book) - 1)


class Deeds(Looks):
    def test_a_fresh_house(self):
        house = House(RULES, PART)
        same_kind(self, house.today(), 0)
        same_kind(self, house.log(), [])
        same_kind(self, len(house), 0)
        self.assertEqual(repr(house), "House(day 0, 0 people, 0 deeds)")
        self.assertEqual(house.book().accounts(), [(word, code) for word in FOUR for code in CODES])
        for word in FOUR:
            for code in CODES:
                same_kind(self, house.balance(word, code), 0)
        for code in CODES:
            same_kind(self, house.rested(code), (0, 1))

    def test_join(self):
        house = House(RULES, PART)
        self.assertIsNone(house.join("ann", "eur"))
        self.assertEqual(repr(house), "House(day 0, 1 people, 1 deeds)")
        self.assertIsNone(house.join("ann", "chf"))
        self.assertIsNone(house.join("abcdefgh", "eur"))
        self.assertEqual(repr(house), "House(day 0, 2 people, 3 deeds)")
        same_kind(self, house.balance("ann", "eur"), 0)
        same_kind(self, house.owed("ann", "eur"), 0)
        same_kind(self, house.left_over("ann", "eur"), (0, 1))
        self.assertEqual(len(house.book()), 0)
        before = whole(house)
        refused(self, Open, house.join, "ann", "eur")
        self.assertEqual(whole(house), before)

    def test_bring_and_take(self):
        house = two()
        self.assertIsNone(house.bring("bob", "eur", 5))
        same_kind(self, last_posting(house), (0, "bring", ((("bob", "eur"), 5), (("world", "eur"), -5))))
        self.assertIsNone(house.take("ann", "eur", 1000))
        same_kind(self, last_posting(house), (0, "take", ((("ann", "eur"), -1000), (("world", "eur"), 1000))))
        same_kind(self, (house.balance("ann", "eur"), house.balance("world", "eur")), (0, -5))
        refused(self, Short, house.take, "ann", "eur", 1)
        refused(self, Short, house.take, "bob", "eur", 6)
        house.bring("ann", "eur", MOST)
        house.take("ann", "eur", MOST)
        refused(self, Short, house.take, "ann", "eur", MOST)

    def test_give(self):
        house = two()
        house.on(3)
        self.assertIsNone(house.give("ann", "bob", "eur", 999))
        same_kind(self, last_posting(house), (3, "give", ((("ann", "eur"), -999), (("bob", "eur"), 999))))
        refused(self, Short, house.give, "ann", "bob", "eur", 2)
        house.give("bob", "ann", "eur", 999)
        same_kind(self, last_posting(house), (3, "give", ((("ann", "eur"), 999), (("bob", "eur"), -999))))
        self.assertEqual(house.log()[-1], ("give", "bob", "ann", "eur", 999))

    def test_swap(self):
        house = two()
        # 10 eur are 200/21 chf
        same_kind(self, house.swap("ann", ("eur", "chf"), 10), 10)
        same_kind(self, last_posting(house), (0, "swap", (
            (("ann", "chf"), 10), (("ann", "eur"), -10), (("change", "chf"), -10), (("change", "eur"), 10))))
        same_kind(self, house.rested("chf"), (-10, 21))
        same_kind(self, house.rested("eur"), (0, 1))
        # 10 chf are 21/2 eur, so 10, so 1600 jpy
        same_kind(self, house.swap("ann", ("chf", "eur", "jpy"), 10), 1600)
        same_kind(self, house.rested("eur"), (1, 2))
        same_kind(self, house.rested("jpy"), (0, 1))
        same_kind(self, house.balance("change", "eur"), 10)
        self.assertEqual(house.log()[-1], ("swap", "ann", ("chf", "eur", "jpy"), 10))

    def test_swap_for_nothing(self):
        house = two()
        # a jpy is 1/160 eur, by even 0
        same_kind(self, house.swap("ann", ("jpy", "eur"), 1), 0)
        same_kind(self, last_posting(house), (0, "swap", ((("ann", "jpy"), -1), (("change", "jpy"), 1))))
        same_kind(self, house.rested("eur"), (1, 160))
        same_kind(self, house.balance("ann", "eur"), 1000)

    def test_swap_by_the_rates_and_custom_of_the_day(self):
        house = two()
        refused(self, NoRoad, house.swap, "ann", ("chf", "jpy"), 1)
        house.on(39)
        refused(self, NoRoad, house.swap, "ann", ("chf", "jpy"), 1)
        house.on(1)
        same_kind(self, house.swap("ann", ("chf", "jpy"), 1), 168)
        house.on(5)
        # by up
        same_kind(self, house.swap("ann", ("chf", "eur"), 10), 4)
        same_kind(self, house.rested("eur"), pair(Fraction(-2, 3) + Fraction(*house.left_over("ann", "eur"))))

    def test_sell(self):
        house = two()
        house.give("ann", "bob", "eur", 400)
        # food 220 and per line twice 6 by even (5.5), book 300 with 2100/107 within
        same_kind(self, house.sell("ann", "bob", "eur", (("food", 110, 2), ("book", 100, 1))), 331)
        same_kind(self, last_posting(house), (0, "sell", (
            (("ann", "eur"), 220 + 93), (("bob", "eur"), -331), (("tax", "eur"), 18))))
        self.assertEqual(house.log()[-1], ("sell", "ann", "bob", "eur", (("food", 110, 2), ("book", 100, 1)), "line"))
        self.assertEqual(house.balance("bob", "eur"), 400 - 331)
        same_kind(self, house.rested("eur"), pair(Fraction(700, 107) - 7))

    def test_sell_per(self):
        for per, price in (("line", 232), ("sum", 231)):
            house = two()
            house.give("ann", "bob", "eur", 500)
            # by even 5.5 is 6 twice, or 11
            same_kind(self, house.sell("ann", "bob", "eur", (("food", 110, 1),) * 2, per=per), price)
            self.assertEqual(house.log()[-1][-1], per)
            same_kind(self, house.rested("eur"), (-1, 1) if per == "line" else (0, 1))

    def test_sell_with_something_left_out(self):
        house = two()
        count = len(house.book())
        same_kind(self, house.sell("bob", "ann", "eur", (("food", 0, 9),)), 0)
        self.assertEqual(len(house.book()), count)
        self.assertEqual(house.log()[-1], ("sell", "bob", "ann", "eur", (("food", 0, 9),), "line"))
        same_kind(self, house.sell("bob", "ann", "eur", (("free", 7, 1),)), 7)
        same_kind(self, last_posting(house), (0, "sell", ((("ann", "eur"), -7), (("bob", "eur"), 7))))
        # by up the tax of 1 within is all of it, so that the seller gets nothing
        house.on(20)
        same_kind(self, house.sell("bob", "ann", "eur", (("book", 1, 1),)), 1)
        same_kind(self, last_posting(house), (20, "sell", ((("ann", "eur"), -1), (("tax", "eur"), 1))))
        self.assertEqual(house.rested("eur"), pair(Fraction(7, 107) - 1))

    def test_sell_short(self):
        house = two()
        same_kind(self, house.sell("bob", "ann", "eur", (("gold", 500, 1),)), 1000)
        refused(self, Short, house.sell, "bob", "ann", "eur", (("free", 1, 1),))
        house.sell("bob", "ann", "eur", (("free", 0, 1),))
        house.bring("ann", "eur", 1000)
        refused(self, Short, house.sell, "bob", "ann", "eur", (("free", 1001, 1),))
        house.sell("bob", "ann", "eur", (("free", 1000, 1),))

    def test_sell_by_the_taxes_of_the_day(self):
        house = two()
        refused(self, NoBill, house.sell, "bob", "ann", "eur", (("late", 8, 1),))
        house.on(50)
        same_kind(self, house.sell("bob", "ann", "eur", (("late", 8, 1),)), 9)
        same_kind(self, house.sell("bob", "ann", "eur", (("food", 8, 1),)), 8)

    def test_lend_and_pay_back(self):
        house = done((("join", "bob", "eur"),))
        self.assertIsNone(house.lend("bob", "eur", 100, 2))
        same_kind(self, last_posting(house), (0, "lend", ((("bob", "eur"), 100), (("house", "eur"), -100))))
        same_kind(self, house.owed("bob", "eur"), 100)
        house.take("bob", "eur", 100)
        house.on(29)
        same_kind(self, house.owed("bob", "eur"), 100)
        house.on(1)
        same_kind(self, last_posting(house), (30, "loan", ((("bob", "eur"), -51), (("house", "eur"), 51))))
        same_kind(self, (house.owed("bob", "eur"), house.balance("bob", "eur")), (50, -51))
        same_kind(self, house.rested("eur"), (0, 1))
        house.on(30)
        # the custom of the day on which it was made, even, holds: interest 1/2 by 0
        same_kind(self, last_posting(house), (60, "loan", ((("bob", "eur"), -50), (("house", "eur"), 50))))
        same_kind(self, (house.owed("bob", "eur"), house.rested("eur")), (0, (1, 2)))
        count = len(house.book())
        house.on(90)
        self.assertEqual(len(house.book()), count)
        refused(self, Short, house.take, "bob", "eur", 1)

    def test_the_first_payment(self):
        for ahead, first in ((0, 30), (1, 30), (29, 30), (30, 60), (31, 60)):
            house = done((
                ("join", "bob", "eur"), ("on", ahead), ("lend", "bob", "eur", 1, 1), ("take", "bob", "eur", 1)))
            house.on(first - ahead - 1)
            same_kind(self, house.owed("bob", "eur"), 1)
            house.on(1)
            same_kind(self, house.owed("bob", "eur"), 0)

    def test_loans_in_the_order_in_which_they_were_made(self):
        house = done((("join", "ann", "eur"), ("join", "bob", "eur"), ("lend", "bob", "eur", 60, 3),
                      ("lend", "ann", "eur", 30, 2), ("lend", "bob", "eur", 7, 1)), part=(0, 1))
        same_kind(self, (house.owed("bob", "eur"), house.owed("ann", "eur")), (67, 30))
        house.on(30)
        book = house.book()
        paid = [book.posting(number)[1:] for number in range(3, len(book))]
        same_kind(self, paid, [("loan", ((("bob", "eur"), -20), (("house", "eur"), 20))),
                               ("loan", ((("ann", "eur"), -15), (("house", "eur"), 15))),
                               ("loan", ((("bob", "eur"), -7), (("house", "eur"), 7)))])
        same_kind(self, (house.owed("bob", "eur"), house.owed("ann", "eur")), (40, 15))

    def test_interest_then_loans(self):
        house = done((
            ("join", "zed", "eur"), ("join", "ann", "eur"), ("join", "ann", "chf"), ("lend", "ann", "eur", 1000, 2),
            ("bring", "zed", "eur", 500), ("bring", "ann", "chf", 250)))
        house.on(30)
        book = house.book()
        same_kind(self, [book.posting(number) for number in range(3, len(book))], [
            (30, "grow", ((("ann", "chf"), 2), (("house", "chf"), -2))),
            (30, "grow", ((("ann", "eur"), 10), (("house", "eur"), -10))),
            (30, "grow", ((("house", "eur"), -5), (("zed", "eur"), 5))),
            (30, "loan", ((("ann", "eur"), -508), (("house", "eur"), 508))),
        ])
        same_kind(self, house.left_over("ann", "chf"), (1, 2))
        same_kind(self, house.rested("chf"), (1, 2))

    def test_what_is_left_over_grows_on(self):
        house = done((("join", "ann", "eur"), ("bring", "ann", "eur", 30)))
        # 3/10 each month
        for month, (over, held) in enumerate((((3, 10), 30), ((3, 5), 30), ((9, 10), 30), ((1, 5), 31))):
            house.on(30)
            same_kind(self, house.left_over("ann", "eur"), over)
            same_kind(self, house.rested("eur"), over)
            same_kind(self, house.balance("ann", "eur"), held)
            self.assertEqual(house.balance("house", "eur"), 30 - held)

    def test_interest_by_the_days(self):
        house = done((("join", "ann", "eur"), ("on", 10), ("bring", "ann", "eur", 3000), ("on", 5),
                      ("take", "ann", "eur", 3000), ("on", 15)))
        # 3000 for five days
        same_kind(self, house.balance("ann", "eur"), 5)
        house.on(30)
        same_kind(self, house.left_over("ann", "eur"), (1, 20))

    def test_no_interest_below_nought(self):
        house = done((
            ("join", "ann", "eur"), ("lend", "ann", "eur", 1000, 1), ("take", "ann", "eur", 1000), ("on", 30)))
        same_kind(self, house.balance("ann", "eur"), -1010)
        house.on(300)
        same_kind(self, house.balance("ann", "eur"), -1010)
        same_kind(self, house.left_over("ann", "eur"), (0, 1))
        refused(self, Short, house.take, "ann", "eur", 1)

    def test_the_four_earn_nothing(self):
        house = done((
            ("join", "ann", "eur"), ("lend", "ann", "eur", 1000, 60), ("take", "ann", "eur", 1000), ("on", 60)))
        texts = [house.book().posting(number)[1] for number in range(len(house.book()))]
        self.assertEqual(texts, ["lend", "take", "loan", "loan"])
        self.assertGreater(house.balance("world", "eur"), 0)

    def test_on_by_nothing(self):
        house = two()
        before = house.book()
        self.assertIsNone(house.on(0))
        self.assertTrue(house.book() == before)
        self.assertEqual(house.log()[-1], ("on", 0))
        house.on(30)
        count = len(house.book())
        house.on(0)
        self.assertEqual(len(house.book()), count)

    def test_days_one_by_one_and_at_once(self):
        start = START + (
            ("lend", "ann", "eur", 900, 12), ("lend", "bob", "jpy", 50, 5), ("swap", "ann", ("eur", "jpy"), 99))
        for many in (1, 29, 30, 31, 59, 60, 61, 100, 359, 360, 361, 400):
            once, singly, parted = done(start), done(start), done(start)
            once.on(many)
            for _ in range(many):
                singly.on(1)
            for days in (many // 3, many - many // 3):
                parted.on(days)
            self.assertEqual(once.today(), many)
            for other in (singly, parted):
                self.assertTrue(other.book() == once.book())
                for code in CODES:
                    same_kind(self, other.rested(code), once.rested(code))
                    for person in ("ann", "bob"):
                        same_kind(self, other.left_over(person, code), once.left_over(person, code))
                        same_kind(self, other.owed(person, code), once.owed(person, code))
                self.assertTrue(other != once or many == 1)
            once.undo()
            self.assertEqual(whole(once), whole(done(start)))

    def test_up_to_the_last_day(self):
        house = done(START, part=(1, 100))
        while house.today() + 400 <= 9999:
            self.assertIsNone(house.on(400))
        same_kind(self, house.today(), 9600)
        before = whole(house)
        refused(self, Over, house.on, 400)
        self.assertEqual(whole(house), before)
        house.on(399)
        before = whole(house)
        for days in (1, 2, 30, 400):
            refused(self, Over, house.on, days)
        refused(self, NoDays, house.on, 401)
        self.assertEqual(whole(house), before)
        house.on(0)
        house.bring("ann", "eur", 1)
        same_kind(self, last_posting(house)[:2], (9999, "bring"))
        self.assertEqual(last_posting(done(START + (("on", 400),) * 24, part=(1, 100)))[0], 9600)
        texts = [house.book().posting(number)[1] for number in range(len(house.book()))]
        self.assertGreater(texts.count("grow"), 900)

    def test_what_is_told_is_the_askers(self):
        house = done(led(3)[0])
        before = whole(house)
        house.log().append(("on", 1))
        house.log().clear()
        book = house.book()
        book.begin(("eve", "eur"))
        book.post(9999, "more", ((("ann", "eur"), 5), (("eve", "eur"), -5)))
        book.reverse(0, 9999)
        self.assertEqual(whole(house), before)
        # nor does the house change a book that was told
        told = house.book()
        earlier = told.twin()
        house.bring("ann", "eur", 5)
        house.undo()
        house.undo()
        self.assertTrue(told == earlier)

    def test_asked_twice(self):
        house = done(led(4)[0])
        for asking in (house.today, house.log, house.book):
            asked(self, asking)
        for person in ("ann", "bob"):
            for code in CODES:
                for asking in (house.balance, house.owed, house.left_over):
                    asked(self, asking, person, code)
                asked(self, house.rested, code)


class Equals(unittest.TestCase):
    def test_rules_parts_and_logs(self):
        like(self, House(RULES, PART), House(RULES, PART))
        unlike(self, House(RULES, PART), House(RULES, (3, 25)))
        unlike(self, House(RULES, PART), House(RULES[:3] + ((),), PART))
        unlike(self, House(RULES, PART), House((RULES[0], RULES[1][:3], RULES[2], RULES[3]), PART))
        like(self, done(START), done(START))
        unlike(self, done(START), done(START[:-1]))
        unlike(self, done(START), done(START + (("on", 0),)))
        unlike(self, done(START + (("on", 2),)), done(START + (("on", 1), ("on", 1))))
        unlike(self, done(START), done(START[1:2] + START[:1] + START[2:]))
        house = done(START)
        house.on(5)
        unlike(self, house, done(START))
        house.undo()
        like(self, house, done(START))

    def test_per_counts(self):
        one, other = two(), two()
        one.sell("bob", "ann", "eur", (("free", 1, 1),), per="line")
        other.sell("bob", "ann", "eur", (("free", 1, 1),), per="sum")
        unlike(self, one, other)

    def test_things_of_other_kinds(self):
        for thing in NEITHER + (0, RULES, [], "House(day 0, 0 people, 0 deeds)", House(RULES, PART).book(), House):
            unlike(self, House(RULES, PART), thing)

    def test_len_and_repr(self):
        for deeds, told in (
                ((), "House(day 0, 0 people, 0 deeds)"), (START[:1], "House(day 0, 1 people, 1 deeds)"),
                (START[:3], "House(day 0, 1 people, 3 deeds)"), (START, "House(day 0, 2 people, 9 deeds)"),
                (START + (("on", 30),), "House(day 30, 2 people, 10 deeds)")):
            house = done(deeds)
            self.assertEqual(repr(house), told)
            same_kind(self, len(house), len(deeds))


class Refusals(unittest.TestCase):
    def setUp(self):
        self.house = two()
        self.house.join("cy", "eur")
        self.house.join("cy", "jpy")
        self.house.bring("cy", "eur", 50)
        self.house.on(3)
        self.before = whole(self.house)

    def tearDown(self):
        self.assertEqual(whole(self.house), self.before)

    def wrong(self, error, word, *things, **named):
        refused(self, error, getattr(self.house, word), *things, **named)

    def test_no_rules_and_no_part(self):
        for thing in NO_RULES:
            refused(self, NoRules, House, thing, PART)
            refused(self, NoRules, House, thing, None)
        for thing in NO_PARTS:
            refused(self, NoPart, House, RULES, thing)
        for part in ((0, 1), (100, 1000), (100, 1), (0, 1000)):
            House(RULES, part)

    def test_no_person(self):
        for thing in NO_PEOPLE:
            self.wrong(NoPerson, "join", thing, "eur")
            self.wrong(NoPerson, "bring", thing, "eur", 5)
            self.wrong(NoPerson, "take", thing, "eur", 5)
            self.wrong(NoPerson, "give", thing, "ann", "eur", 5)
            self.wrong(NoPerson, "give", "ann", thing, "eur", 5)
            self.wrong(NoPerson, "swap", thing, ("eur", "chf"), 5)
            self.wrong(NoPerson, "sell", thing, "ann", "eur", LINES)
            self.wrong(NoPerson, "sell", "bob", thing, "eur", LINES)
            self.wrong(NoPerson, "lend", thing, "eur", 5, 5)
            self.wrong(NoPerson, "owed", thing, "eur")
            self.wrong(NoPerson, "left_over", thing, "eur")
            if thing not in FOUR:
                self.wrong(NoPerson, "balance", thing, "eur")

    def test_no_account_or_twice(self):
        for person, code in (("dan", "eur"), ("cy", "chf")):
            self.wrong(NoPerson, "bring", person, code, 5)
            self.wrong(NoPerson, "take", person, code, 5)
            self.wrong(NoPerson, "give", person, "ann", code, 5)
            self.wrong(NoPerson, "give", "ann", person, code, 5)
            self.wrong(NoPerson, "sell", person, "ann", code, LINES)
            self.wrong(NoPerson, "sell", "ann", person, code, LINES)
            self.wrong(NoPerson, "lend", person, code, 5, 5)
            self.wrong(NoPerson, "balance", person, code)
            self.wrong(NoPerson, "owed", person, code)
            self.wrong(NoPerson, "left_over", person, code)
        self.wrong(NoPerson, "swap", "dan", ("eur", "jpy"), 5)
        self.wrong(NoPerson, "swap", "cy", ("eur", "chf"), 5)
        self.wrong(NoPerson, "swap", "cy", ("chf", "eur"), 5)
        self.wrong(NoPerson, "give", "ann", "ann", "eur", 5)
        self.wrong(NoPerson, "sell", "ann", "ann", "eur", LINES)

    def test_no_account_between(self):
        # the codes amid a road need none
        house = self.house.twin()
        house.join("dan", "chf")
        house.join("dan", "jpy")
        house.bring("dan", "chf", 10)
        same_kind(self, house.swap("dan", ("chf", "eur", "jpy"), 10), 1600)

    def test_no_code(self):
        for thing in NO_CODES:
            self.wrong(NoCode, "join", "dan", thing)
            self.wrong(NoCode, "bring", "ann", thing, 5)
            self.wrong(NoCode, "take", "ann", thing, 5)
            self.wrong(NoCode, "give", "ann", "bob", thing, 5)
            self.wrong(NoCode, "sell", "ann", "bob", thing, LINES)
            self.wrong(NoCode, "lend", "ann", thing, 5, 5)
            self.wrong(NoCode, "balance", "ann", thing)
            self.wrong(NoCode, "owed", "ann", thing)
            self.wrong(NoCode, "left_over", "ann", thing)
            self.wrong(NoCode, "rested", thing)

    def test_no_coins(self):
        for thing in NO_COINS:
            self.wrong(NoCoins, "bring", "ann", "eur", thing)
            self.wrong(NoCoins, "take", "ann", "eur", thing)
            self.wrong(NoCoins, "give", "ann", "bob", "eur", thing)
            self.wrong(NoCoins, "swap", "ann", ("eur", "chf"), thing)
            self.wrong(NoCoins, "lend", "ann", "eur", thing, 5)
        for coins in (1, MOST):
            house = self.house.twin()
            house.bring("ann", "eur", coins)
            house.lend("ann", "eur", coins, 60)
            house.give("ann", "bob", "eur", coins)
            house.take("ann", "eur", coins)
            house.swap("bob", ("eur", "chf"), coins)

    def test_no_road(self):
        for thing in NO_ROADS:
            self.wrong(NoRoad, "swap", "ann", thing, 5)

    def test_no_bill_and_no_per(self):
        for thing in NEITHER + NO_LINES + (0, list(LINES), (), LINES * 3, (None,), {}):
            self.wrong(NoBill, "sell", "bob", "ann", "eur", thing)
            self.wrong(NoBill, "sell", "bob", "ann", "eur", (thing,))
        self.wrong(NoBill, "sell", "bob", "ann", "eur", LINES[0])
        for thing in NO_PERS:
            self.wrong(NoPer, "sell", "bob", "ann", "eur", LINES, per=thing)
        with self.assertRaises(TypeError):
            self.house.sell("bob", "ann", "eur", LINES, "line")

    def test_no_months_and_no_days(self):
        for thing in NO_MONTHS:
            self.wrong(NoMonths, "lend", "ann", "eur", 5, thing)
        for thing in NO_DAYS:
            self.wrong(NoDays, "on", thing)
        for months in (1, 60):
            self.house.twin().lend("ann", "eur", 5, months)
        for days in (0, 400):
            self.house.twin().on(days)

    def test_balances_of_the_four(self):
        for word in FOUR:
            asked(self, self.house.balance, word, "eur")

    def test_short(self):
        self.wrong(Short, "take", "ann", "eur", 1001)
        self.wrong(Short, "give", "ann", "bob", "eur", 1001)
        self.wrong(Short, "swap", "ann", ("eur", "chf"), 1001)
        self.wrong(Short, "sell", "bob", "ann", "eur", (("free", 1001, 1),))
        self.wrong(Short, "take", "bob", "eur", 1)
        self.wrong(Short, "take", "ann", "eur", MOST)

    def test_several_at_once(self):
        for wrong in (None, True, (), [], {}):
            refused(self, NoRules, House, wrong, wrong)
            self.wrong(NoPerson, "join", wrong, wrong)
            self.wrong(NoPerson, "join", "world", "usd")
            self.wrong(NoCode, "join", "ann", wrong)
            for word in ("bring", "take"):
                self.wrong(NoPerson, word, wrong, wrong, wrong)
                self.wrong(NoCode, word, "dan", wrong, wrong)
                self.wrong(NoCoins, word, "dan", "eur", wrong)
                self.wrong(NoPerson, word, "dan", "eur", MOST)
            self.wrong(NoPerson, "give", wrong, wrong, wrong, wrong)
            self.wrong(NoPerson, "give", "ann", wrong, wrong, wrong)
            self.wrong(NoPerson, "give", wrong, "ann", wrong, wrong)
            self.wrong(NoCode, "give", "ann", "ann", wrong, wrong)
            self.wrong(NoCoins, "give", "ann", "ann", "eur", wrong)
            self.wrong(NoCoins, "give", "dan", "eve", "eur", wrong)
            self.wrong(NoPerson, "swap", wrong, wrong, wrong)
            self.wrong(NoRoad, "swap", "dan", wrong, wrong)
            self.wrong(NoRoad, "swap", "dan", ("eur", "chf", "eur"), wrong)
            self.wrong(NoCoins, "swap", "dan", ("eur", "chf"), wrong)
            self.wrong(NoPerson, "sell", wrong, wrong, wrong, wrong, per=wrong)
            self.wrong(NoPerson, "sell", "dan", wrong, wrong, wrong, per=wrong)
            self.wrong(NoPerson, "sell", wrong, "dan", wrong, wrong, per=wrong)
            self.wrong(NoCode, "sell", "dan", "dan", wrong, wrong, per=wrong)
            self.wrong(NoBill, "sell", "dan", "dan", "eur", wrong, per=wrong)
            self.wrong(NoPer, "sell", "dan", "dan", "eur", LINES, per=[wrong])
            self.wrong(NoPerson, "lend", wrong, wrong, wrong, wrong)
            self.wrong(NoCode, "lend", "dan", wrong, wrong, wrong)
            self.wrong(NoCoins, "lend", "dan", "eur", wrong, wrong)
            self.wrong(NoMonths, "lend", "dan", "eur", 5, wrong)
            for word in ("balance", "owed", "left_over"):
                self.wrong(NoPerson, word, wrong, wrong)
                self.wrong(NoCode, word, "dan", wrong)
                self.wrong(NoPerson, word, "dan", "eur")
        self.wrong(NoPerson, "give", "ann", "ann", "eur", MOST)
        self.wrong(NoPerson, "give", "ann", "dan", "eur", MOST)
        self.wrong(NoPerson, "sell", "ann", "ann", "eur", (("gold", 10000000, 99),))
        self.wrong(NoPerson, "sell", "dan", "ann", "eur", (("gold", 10000000, 99),))
        self.wrong(NoPerson, "swap", "cy", ("eur", "chf"), MOST)
        self.wrong(NoCode, "balance", "world", "usd")

    def test_nothing(self):
        refused(self, Nothing, House(RULES, PART).undo)
        # what is refused is no deed
        house = House(RULES, PART)
        refused(self, NoPerson, house.bring, "ann", "eur", 5)
        refused(self, Nothing, house.undo)


class ByName(unittest.TestCase):
    def test_by_name(self):
        house = House(part=PART, rules=RULES)
        for person in ("ann", "bob"):
            for code in CODES:
                self.assertIsNone(house.join(code=code, person=person))
        self.assertIsNone(house.bring(coins=1000, code="eur", person="ann"))
        self.assertIsNone(house.take(coins=1, code="eur", person="ann"))
        self.assertIsNone(house.give(coins=99, code="eur", other="bob", one="ann"))
        same_kind(self, house.swap(coins=10, road=("eur", "chf"), person="ann"), 10)
        same_kind(self, house.sell(per="sum", lines=(("food", 20, 1),), code="eur", buyer="ann", seller="bob"), 21)
        self.assertIsNone(house.lend(months=2, coins=100, code="eur", person="ann"))
        self.assertIsNone(house.on(days=2))
        same_kind(self, house.balance(code="eur", word="ann"), 1000 - 1 - 99 - 10 - 21 + 100)
        same_kind(self, house.owed(code="eur", person="ann"), 100)
        same_kind(self, house.left_over(code="eur", person="ann"), (0, 1))
        same_kind(self, house.rested(code="chf"), (-10, 21))
        same_kind(self, house.log()[-4:], [
            ("swap", "ann", ("eur", "chf"), 10), ("sell", "bob", "ann", "eur", (("food", 20, 1),), "sum"),
            ("lend", "ann", "eur", 100, 2), ("on", 2)])
        same_kind(self, house.log()[:1], [("join", "ann", "chf")])

    def test_each_method_stands_in_the_class_itself(self):
        for name in ("join", "bring", "take", "give", "lend", "on", "undo", "swap", "sell", "today", "balance", "owed",
                     "book", "left_over", "rested", "log", "twin", "__len__", "__eq__", "__repr__"):
            self.assertIn(name, vars(House))


if __name__ == "__main__":
    unittest.main()

"""[110], with [2] to [5] as far as they speak of desks."""

import unittest

from coinlaw.amounts import amount_text
from coinlaw.days import date_of
from coinlaw.desk import Desk
from coinlaw.errors import (
    CoinError, NoBill, NoCode, NoCoins, NoDays, NoLine, NoMonths, NoPart, NoPerson, NoRoad, NoRules, Nothing, Open,
    Over, Short,
)
from coinlaw.houses import House
from coinlaw.rates import rate
from helpers import NEITHER, NO_PARTS, NO_RULES, THIRTY, refused, same_kind
from test_houses import CODES, PART, PEOPLE, RULES, do, led

START = (
    "join ann chf", "join ann eur", "join ann jpy", "join bob eur", "join cy eur", "join cy jpy",
    "bring ann 500.00 eur", "bring ann 1000 jpy", "bring bob 20.00 eur",
)
QUESTIONS = ("today", "sums", "log") + tuple(
    f"{word} {person} {code}" for word in ("balance", "owed") for person, code in (
        ("ann", "chf"), ("ann", "eur"), ("ann", "jpy"), ("bob", "eur"), ("cy", "eur"), ("cy", "jpy"))) + tuple(
    f"balance {word} {code}" for word in ("world", "house", "change", "tax") for code in CODES) + tuple(
    f"rates {one} {other}" for one in CODES for other in CODES)

# of each form a line that is right, of what stands by START
RIGHT = (
    "join dan eur", "bring ann 0.01 eur", "take ann 1.00 eur", "give ann bob 0.50 eur", "swap ann 1.00 eur chf",
    "swap ann 1.00 eur jpy eur chf", "lend bob 9.99 eur 12", "on 0", "on 400", "undo",
    "sell ann bob eur line food:110:2", "sell ann bob eur sum food:110:1 book:0:99", "today", "balance ann eur",
    "balance tax jpy", "owed bob eur", "rates eur chf", "rates eur eur", "sums", "log",
)

NO_LINES = tuple(thing for thing in NEITHER) + (
    0, 1, THIRTY, ("today",), ["today"], {"today": 1}, b"today", ("join", "ann", "eur"),
    # blanks and other signs
    " today", "today ", "to day", "today\n", "\ttoday", "today\t", "Today", "TODAY", "today today", "", " ", "  ",
    "join  dan eur", "join dan  eur", " join dan eur", "join dan eur ", "join\tdan\teur", "join dan\neur",
    "join dan eur\n",
    # a word more or fewer
    "join", "join dan", "join dan eur eur", "join dan eve eur", "bring", "bring ann", "bring ann 5.00", "bring ann eur",
    "bring 5.00 eur", "bring ann 5.00 eur eur", "bring ann eur 5.00", "take ann 5.00", "take ann 1 5.00 eur",
    "give ann 5.00 eur", "give ann bob cy 5.00 eur", "give ann bob 5.00", "give ann bob eur", "swap ann 5.00 eur",
    "swap ann 5.00 chf", "swap ann eur chf", "swap ann 5.00", "swap ann", "lend ann 5.00 eur", "lend ann 5.00 eur 1 1",
    "lend ann 1 5.00 eur", "lend ann 5.00 1", "on", "on 1 1", "undo 1", "undo undo", "undo last",
    "sell ann bob eur line", "sell ann bob eur food:1:1", "sell ann bob line food:1:1", "sell ann eur line food:1:1",
    "sell ann bob eur", "balance ann", "balance eur", "balance", "balance ann eur eur", "owed ann", "owed",
    "owed ann eur eur", "rates eur", "rates", "rates eur chf jpy", "sums eur", "log 1", "today 0",
    # words otherwise
    "joins dan eur", "jion dan eur", "Join dan eur", "join Dan eur", "join dan1 eur", "join abcdefghi eur",
    "join dan EUR", "join dan eu", "join dan euro", "join dan 1", "join 1 eur", "join - eur", "bring Ann 5.00 eur",
    "balance ann EUR", "balance ann euro", "balance Ann eur", "owed ann e", "rates eur CHF", "rates eu chf",
    "swap ann 5.00 eur CHF", "swap ann 5.00 eur chf eu", "swap ann 5.00 eur chf ", "swap ann 5.00 eur  chf",
    "swap ann 5.00 eur chf 1", "sell ann bob eur Line food:1:1", "sell ann bob eur lines food:1:1",
    "sell ann bob eur row food:1:1", "sell Ann bob eur line food:1:1", "sell ann bob eu line food:1:1", "bye", "help",
    "twin", "book", "rested eur", "left_over ann eur", "house", "say", "sums right",
    # amounts that write none, of nought, below it, of another code
    "bring ann 5 eur", "bring ann 5.0 eur", "bring ann 5.000 eur", "bring ann .05 eur", "bring ann 05.00 eur",
    "bring ann 5,00 eur", "bring ann 0.00 eur", "bring ann -5.00 eur", "bring ann -0.00 eur", "bring ann 0 jpy",
    "bring ann 5.00 jpy", "bring ann 5. eur", "bring ann 5.00 usd", "bring ann 5.00 EUR", "bring ann +5.00 eur",
    "bring ann five eur", "take ann 0.00 eur", "take ann 5.00 usd", "give ann bob -1.00 eur", "give ann bob 0.00 eur",
    "give ann bob 1.00 usd", "swap ann 0.00 eur chf", "swap ann 1.00 usd eur", "swap ann -1 jpy eur",
    "lend ann 0.00 eur 5", "lend ann -1.00 eur 5", "lend ann 1 eur 5", "lend ann 1.00 usd 5", "bring ann 1_0.00 eur",
    "bring ann 1e2 jpy",
    # numbers
    "on 00", "on 01", "on -1", "on +1", "on 1.0", "on one", "on 1234567890", "on 0000000000", "on 1_0", "on 1,0", "on ",
    "on 0x1", "lend ann 1.00 eur 01", "lend ann 1.00 eur 1234567890", "lend ann 1.00 eur -1", "lend ann 1.00 eur x",
    "lend ann 1.00 eur ", "sell ann bob eur line food:01:1", "sell ann bob eur line food:1:01",
    "sell ann bob eur line food:1234567890:1", "sell ann bob eur line food:1:1234567890",
    "sell ann bob eur line food:-1:1", "sell ann bob eur line food:1:-1", "sell ann bob eur line food:1",
    "sell ann bob eur line food:1:1:1", "sell ann bob eur line food::1", "sell ann bob eur line food:1:",
    "sell ann bob eur line :1:1", "sell ann bob eur line food", "sell ann bob eur line Food:1:1",
    "sell ann bob eur line food :1:1", "sell ann bob eur line food:1:1 ", "sell ann bob eur line food:1:1  food:1:1",
    "sell ann bob eur line food:1:1 food", "sell ann bob eur line food:1:1,food:1:1",
    "sell ann bob eur line food:1.00:1", "sell ann bob eur line food:x:1", "sell ann bob eur line food:1:1 x",
    "sell ann bob eur line ::", "sell ann bob eur line abcdefghi:1:1",
)


def desk_by(lines):
    desk = Desk(RULES, PART)
    for line in lines:
        desk.say(line)
    return desk


def answers(desk):
    """What a desk answers to each question, or refuses by."""
    told = []
    for line in QUESTIONS:
        try:
            told.append(desk.say(line))
        except CoinError as why:
            told.append(type(why).__name__)
    return told


def line_of(deed):
    """The line that tells a desk a deed."""
    word, *things = deed
    if word in ("bring", "take"):
        return f"{word} {things[0]} {amount_text(RULES, things[2], things[1])}"
    if word == "give":
        return f"give {things[0]} {things[1]} {amount_text(RULES, things[3], things[2])}"
    if word == "swap":
        person, road, coins = things
        return f"swap {person} {amount_text(RULES, coins, road[0])} {' '.join(road[1:])}"
    if word == "lend":
        return f"lend {things[0]} {amount_text(RULES, things[2], things[1])} {things[3]}"
    if word == "sell":
        seller, buyer, code, lines, per = things
        return f"sell {seller} {buyer} {code} {per} " + " ".join(":".join(map(str, line)) for line in lines)
    return " ".join([word, *map(str, things)])


class Lines(unittest.TestCase):
    def hear(self, desk, line, answer):
        told = desk.say(line)
        same_kind(self, told, answer)

    def test_by_hand(self):
        desk = Desk(RULES, PART)
        for line, answer in (
                ("today", "0-1-1"), ("log", "0"), ("sums", "right"), ("join ann eur", "ok"),
                ("balance ann eur", "0.00 eur"), ("bring ann 12.50 eur", "ok"), ("balance ann eur", "12.50 eur"),
                ("balance world eur", "-12.50 eur"), ("take ann 0.50 eur", "ok"), ("balance ann eur", "12.00 eur"),
                ("join bob eur", "ok"), ("give ann bob 2.00 eur", "ok"), ("balance bob eur", "2.00 eur"),
                ("join ann jpy", "ok"), ("rates eur jpy", "160/1"), ("rates jpy eur", "1/160"),
                ("rates chf jpy", "none"), ("rates eur eur", "1/1"), ("rates chf eur", "21/20"),
                ("swap ann 1.00 eur jpy", "ok"), ("balance ann jpy", "16000 jpy"), ("balance change jpy", "-16000 jpy"),
                ("log", "7"), ("undo", "ok"), ("balance ann jpy", "0 jpy"), ("log", "6"),
                ("sell bob ann eur line food:110:1 food:110:1", "2.32 eur"), ("balance tax eur", "0.12 eur"),
                ("undo", "ok"), ("sell bob ann eur sum food:110:1 food:110:1", "2.31 eur"),
                ("balance tax eur", "0.11 eur"), ("sell bob ann eur sum food:0:99", "0.00 eur"),
                ("lend bob 1.00 eur 2", "ok"), ("owed bob eur", "1.00 eur"), ("owed ann eur", "0.00 eur"),
                ("owed ann jpy", "0 jpy"), ("on 30", "ok"), ("today", "0-2-1"), ("owed bob eur", "0.50 eur"),
                ("on 0", "ok"), ("on 369", "ok"), ("today", "1-2-10"), ("owed bob eur", "0.00 eur"),
                ("sums", "right"), ("log", "12"), ("join eve chf", "ok"), ("swap ann 0.10 eur chf", None)):
            if answer is None:
                refused(self, NoPerson, desk.say, line)
            else:
                self.hear(desk, line, answer)

    def test_each_form(self):
        for line in RIGHT:
            told = desk_by(START).say(line)
            self.assertIs(type(told), str)
            if line.split(" ")[0] in ("join", "bring", "take", "give", "swap", "lend", "on", "undo"):
                self.assertEqual(told, "ok")

    def test_lines_and_deeds_are_the_same(self):
        for turn in range(0, 15):
            log, part = led(turn)
            house, desk = House(RULES, part), Desk(RULES, part)
            for deed in log:
                told = do(house, deed)
                self.hear(desk, line_of(deed), amount_text(RULES, told, deed[3]) if deed[0] == "sell" else "ok")
            self.hear(desk, "log", str(len(log)))
            self.hear(desk, "today", "-".join(map(str, date_of(house.today()))))
            self.hear(desk, "sums", "right")
            for word, code in house.book().accounts():
                self.hear(desk, f"balance {word} {code}", amount_text(RULES, house.balance(word, code), code))
                if word in PEOPLE:
                    self.hear(desk, f"owed {word} {code}", amount_text(RULES, house.owed(word, code), code))
            for one in CODES:
                for other in CODES:
                    standing = rate(RULES, house.today(), one, other)
                    answer = "none" if standing is None else "/".join(map(str, standing))
                    self.hear(desk, f"rates {one} {other}", answer)
            before = answers(desk)
            self.hear(desk, "on 0", "ok")
            self.hear(desk, "undo", "ok")
            self.assertEqual(answers(desk), before)
            for _ in log:
                self.hear(desk, "undo", "ok")
            refused(self, Nothing, desk.say, "undo")
            self.assertEqual(answers(desk), answers(Desk(RULES, part)))

    def test_asked_twice(self):
        desk = desk_by(START)
        before = answers(desk)
        self.assertEqual(answers(desk), before)

    def test_two_desks_by_turns(self):
        logs = [led(0)[0], led(5)[0]]
        part = led(0)[1]
        self.assertEqual(part, led(5)[1])
        desks = [Desk(RULES, part), Desk(RULES, part)]
        for deeds in zip(*logs):
            for desk, deed in zip(desks, deeds):
                desk.say(line_of(deed))
        for desk, log in zip(desks, logs):
            alone = Desk(RULES, part)
            for deed in log:
                alone.say(line_of(deed))
            self.assertEqual(answers(desk), answers(alone))
        self.assertNotEqual(answers(desks[0]), answers(desks[1]))

    def test_up_to_the_last_day(self):
        desk = Desk(RULES, PART)
        for _ in range(24):
            self.hear(desk, "on 400", "ok")
        refused(self, Over, desk.say, "on 400")
        self.hear(desk, "on 399", "ok")
        self.hear(desk, "today", "27-10-10")
        refused(self, Over, desk.say, "on 1")
        self.hear(desk, "on 0", "ok")

    def test_by_name(self):
        desk = Desk(part=PART, rules=RULES)
        self.hear(desk, "today", "0-1-1")
        same_kind(self, desk.say(line="join ann eur"), "ok")
        self.assertIn("say", vars(Desk))


class Refusals(unittest.TestCase):
    def setUp(self):
        self.desk = desk_by(START)
        self.before = answers(self.desk)

    def tearDown(self):
        self.assertEqual(answers(self.desk), self.before)

    def test_no_rules_and_no_part(self):
        for thing in NO_RULES:
            refused(self, NoRules, Desk, thing, PART)
            refused(self, NoRules, Desk, thing, None)
        for thing in NO_PARTS:
            refused(self, NoPart, Desk, RULES, thing)

    def test_no_line(self):
        for thing in NO_LINES:
            refused(self, NoLine, self.desk.say, thing)
            # ahead of all else: of nobody, nothing and no account, too
            refused(self, NoLine, Desk(RULES, PART).say, thing)

    def test_a_word_more_or_fewer(self):
        for line in RIGHT:
            words = line.split(" ")
            for at in range(len(words) + 1):
                for more in ("", "A", "%", "x:y", "1.5", "ann\n"):
                    refused(self, NoLine, self.desk.say, " ".join(words[:at] + [more] + words[at:]))
            if words[0] not in ("swap", "sell"):
                for at in range(len(words)):
                    refused(self, NoLine, self.desk.say, " ".join(words[:at] + words[at + 1:]) or " ")
                refused(self, NoLine, self.desk.say, line + " " + words[-1])
            for at, word in enumerate(words):
                loud = word.upper() if word != word.upper() else ""
                for new in (loud, word + " ", " " + word, word + ".", "", "-" + word):
                    refused(self, NoLine, self.desk.say, " ".join(words[:at] + [new] + words[at + 1:]))

    def test_as_the_house_refuses(self):
        for line, error in (
                ("join ann eur", Open), ("join world eur", NoPerson), ("join tax usd", NoPerson),
                ("join dan usd", NoCode), ("bring dan 5.00 eur", NoPerson), ("bring house 5.00 eur", NoPerson),
                ("bring ann 1000000.01 eur", NoCoins), ("bring ann 100000001 jpy", NoCoins),
                ("bring dan 100000001 jpy", NoCoins), ("bring world 100000001 jpy", NoPerson),
                ("take ann 500.01 eur", Short), ("take dan 1.00 eur", NoPerson), ("give ann bob 500.01 eur", Short),
                ("give ann ann 1.00 eur", NoPerson), ("give ann dan 1.00 eur", NoPerson),
                ("give change bob 1.00 eur", NoPerson), ("give ann bob 9000000.00 eur", NoCoins),
                ("give ann bob 1 jpy", NoPerson), ("swap ann 1.00 eur eur", NoRoad),
                ("swap ann 1.00 eur chf eur", NoRoad), ("swap ann 1.00 chf jpy", NoRoad),
                ("swap ann 1.00 eur usd", NoRoad), ("swap ann 1.00 eur chf eur chf eur chf eur chf", NoRoad),
                ("swap bob 1.00 eur chf", NoPerson), ("swap ann 500.01 eur chf", Short),
                ("swap ann 9000000.00 eur chf", NoCoins), ("swap tax 9000000.00 eur eur", NoPerson),
                ("swap dan 9000000.00 eur eur", NoRoad), ("lend ann 1.00 eur 0", NoMonths),
                ("lend ann 1.00 eur 61", NoMonths), ("lend ann 1.00 eur 999999999", NoMonths),
                ("lend dan 1.00 eur 5", NoPerson), ("lend dan 9000000.00 eur 61", NoCoins),
                ("lend world 1.00 eur 61", NoPerson), ("on 401", NoDays), ("on 999999999", NoDays),
                ("sell ann bob eur line none:1:1", NoBill), ("sell ann bob eur line late:1:1", NoBill),
                ("sell ann bob eur line food:10000001:1", NoBill), ("sell ann bob eur line food:1:0", NoBill),
                ("sell ann bob eur line food:1:100", NoBill), ("sell ann bob eur line" + " food:1:1" * 9, NoBill),
                ("sell ann bob usd line food:1:1", NoCode), ("sell ann ann eur line food:1:1", NoPerson),
                ("sell tax ann usd line none:1:1", NoPerson), ("sell ann dan eur line food:1:1", NoPerson),
                ("sell ann bob eur line food:3000:1", Short), ("sell ann bob jpy sum food:1:1", NoPerson),
                ("balance dan eur", NoPerson), ("balance ann usd", NoCode), ("balance bob chf", NoPerson),
                ("owed dan eur", NoPerson), ("owed world eur", NoPerson), ("owed ann usd", NoCode),
                ("owed bob chf", NoPerson), ("rates usd eur", NoCode), ("rates eur usd", NoCode),
                ("rates usd usd", NoCode)):
            refused(self, error, self.desk.say, line)
        refused(self, Nothing, Desk(RULES, PART).say, "undo")

    def test_bounds(self):
        desk = desk_by(START)
        for line in ("bring ann 1000000.00 eur", "bring ann 100000000 jpy", "lend ann 1.00 eur 1",
                     "lend ann 1.00 eur 60", "on 400", "sell ann bob eur line" + " food:1:1" * 8,
                     "sell bob ann eur line food:0:99", "swap ann 0.01 eur chf eur chf eur chf"):
            self.assertIs(type(desk.say(line)), str)


if __name__ == "__main__":
    unittest.main()

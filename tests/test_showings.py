"""[100], with [2] to [5] as far as they speak of showings."""

import random
import unittest

from coinlaw.errors import NoDay, NoHouse, NoPostings, NoRules
from coinlaw.houses import House
from coinlaw.papers import balance_paper
from coinlaw.showings import is_showing, showing_of
from helpers import NEITHER, NO_ACCOUNTS, NO_DAYS, NO_RULES, THIRTY, asked, no, otherwise, put, refused, same_kind, yes
from test_houses import CODES, FOUR, PART, RULES, done, led, two, whole

ANN, BOB, CY = ("ann", "eur"), ("bob", "eur"), ("cy", "eur")
ROWS = ((ANN, 1), (BOB, -1))
POSTINGS = [
    (0, "a", ROWS), (0, "b", ((BOB, 5), (CY, -5))), (3, "back", ((ANN, -1), (BOB, 1))),
    (3, "c", ((("ann", "chf"), 7), (ANN, 2), (("bob", "chf"), -7), (BOB, -2))), (9, "d", ((ANN, 4), (CY, -4))),
]
SHOWN = {
    ANN: ((0, 2, 3), 2), BOB: ((0, 1, 2, 3), 3), CY: ((1,), -5), ("ann", "chf"): ((3,), 7), ("bob", "chf"): ((3,), -7),
}

NO_POSTINGS = tuple(thing for thing in NEITHER if thing != []) + (
    0, tuple(POSTINGS), POSTINGS[0], {0: POSTINGS[0]}, [POSTINGS], POSTINGS[::-1], POSTINGS[1:] + POSTINGS[:1],
    POSTINGS + [None], POSTINGS + [()], POSTINGS + [POSTINGS[0]], [list(POSTINGS[0])], [POSTINGS[0] + (0,)],
    [POSTINGS[0][:2]], [(0, "a", ROWS, ROWS)], [(True, "a", ROWS)], [(-1, "a", ROWS)],
    [(10000, "a", ROWS)], [("0", "a", ROWS)], [(0, "", ROWS)], [(0, "A", ROWS)], [(0, "a" * 21, ROWS)],
    [(0, None, ROWS)], [(0, "a", ())], [(0, "a", ROWS[:1])], [(0, "a", list(ROWS))], [(0, "a", ROWS[::-1])],
    [(0, "a", ROWS + ROWS)], [(0, "a", ((ANN, 1), (BOB, -2)))], [(0, "a", ((ANN, True), (BOB, -1)))],
    [(0, "a", ((ANN, 0), (BOB, 0)))], [(0, "a", ((ANN, 1), (("bob", "chf"), -1)))], [(0, "a", ((ANN, 1), (ANN, -1)))],
    [(0, "a", ((("ann", "usd"), 1), (("bob", "usd"), -1)))], [(0, "a", None)], [(0, "a", ((ANN, 1), (BOB, -1, 0)))],
    [(5, "a", ROWS), (4, "a", ROWS)], [(0, "a", ROWS), (9999, "a", ROWS), (9998, "a", ROWS)], [POSTINGS[0], [0]],
    [(0, "a", tuple(((word, "eur"), 1) for word in "abcdefghijkl") + ((("m", "eur"), -12),))], [[]], [{}], ["a"],
)


def postings_of(house):
    book = house.book()
    return [book.posting(number) for number in range(len(book))]


def showing_by_look(house):
    book = house.book()
    told = {}
    for account in book.accounts():
        numbers = [number for number, (day, text, rows) in enumerate(postings_of(house)) if account in dict(rows)]
        told[account] = (tuple(numbers), house.balance(*account))
    return told


def is_showing_by_look(rules, postings, day, thing):
    """Each of the conditions by itself."""
    if type(thing) is not dict:
        return False
    codes = [row[0] for row in rules[0]]
    sums = {code: 0 for code in codes}
    for account, shown in thing.items():
        if type(account) is not tuple or len(account) != 2 or account[1] not in codes:
            return False
        word = account[0]
        if type(word) is not str or not 1 <= len(word) <= 8 or set(word) - set("abcdefghijklmnopqrstuvwxyz"):
            return False
        if type(shown) is not tuple or len(shown) != 2 or type(shown[0]) is not tuple or type(shown[1]) is not int:
            return False
        if any(type(number) is not int for number in shown[0]):
            return False
        right = [at for at, (since, text, rows) in enumerate(postings) if since <= day and account in dict(rows)]
        if list(shown[0]) != right or shown[1] != sum(dict(postings[at][2])[account] for at in right):
            return False
        sums[account[1]] += shown[1]
    needed = {account for since, text, rows in postings if since <= day for account, coins in rows}
    return needed <= set(thing) and not any(sums.values())


def houses():
    yield House(RULES, PART)
    yield two()
    for turn in range(8):
        log, part = led(turn)
        yield done(log, part=part)


def changed(showing, chance):
    """The showing with one thing otherwise, of each sort."""
    accounts = list(showing)
    for account in accounts:
        numbers, held = showing[account]
        yield {key: showing[key] for key in accounts if key != account}
        for shown in ((numbers, held + 1), (numbers, held - 1), (numbers + (99999,), held), (numbers[1:], held),
                      (numbers[:-1], held), (numbers + numbers[-1:], held), (numbers[::-1], held), (held, numbers),
                      [numbers, held], (list(numbers), held), (numbers, str(held)), (numbers,), (numbers, held, 0),
                      None, (tuple(at == 1 if at < 2 else at for at in numbers), held), (numbers, held == 1), (),
                      numbers, (numbers, None), ((numbers, held),), ((), 0), ((), held), (numbers, 0),
                      (numbers, -held)):
            yield {**showing, account: shown}
    for one in accounts:
        other = chance.choice(accounts)
        yield {**showing, one: showing[other], other: showing[one]}
    # two that are wrong by the same, so that the sums are right
    for code in CODES:
        one, other = chance.sample([account for account in accounts if account[1] == code], 2)
        more = (showing[one][0], showing[one][1] + 1)
        yield {**showing, one: more, other: (showing[other][0], showing[other][1] - 1)}


class Showings(unittest.TestCase):
    def test_by_look(self):
        for house in houses():
            before = whole(house)
            showing = asked(self, showing_of, house)
            self.assertIs(type(showing), dict)
            same_kind(self, sorted(showing.items()), sorted(showing_by_look(house).items()))
            yes(self, is_showing, RULES, postings_of(house), house.today(), showing)
            book = house.book()
            for account, (numbers, held) in showing.items():
                same_kind(self, numbers, balance_paper(book, account, house.today()))
            self.assertEqual(whole(house), before)

    def test_a_fresh_house(self):
        showing = showing_of(House(RULES, PART))
        self.assertEqual(showing, {(word, code): ((), 0) for word in FOUR for code in CODES})
        yes(self, is_showing, RULES, [], 0, showing)
        yes(self, is_showing, RULES, [], 9999, {})

    def test_the_dict_is_the_askers(self):
        house = two()
        before = whole(house)
        showing = showing_of(house)
        showing.clear()
        self.assertEqual(showing_of(house), showing_by_look(house))
        self.assertEqual(whole(house), before)

    def test_no_house(self):
        for thing in NEITHER + (0, RULES, House(RULES, PART).book(), [House(RULES, PART)], "house", House):
            refused(self, NoHouse, showing_of, thing)

    def test_by_name(self):
        house = two()
        same_kind(self, asked(self, showing_of, house=house), showing_by_look(house))
        yes(self, is_showing, thing=SHOWN, day=3, postings=POSTINGS, rules=RULES)
        no(self, is_showing, thing={}, day=3, postings=POSTINGS, rules=RULES)


class ShowingsOfAnything(unittest.TestCase):
    def look(self, postings, day, thing, rules=RULES):
        right = is_showing_by_look(rules, postings, day, thing)
        self.assertIs(is_showing(rules, postings, day, thing), right, (day, thing))
        return right

    def test_by_hand(self):
        yes(self, is_showing, RULES, POSTINGS, 3, SHOWN)
        yes(self, is_showing, RULES, POSTINGS, 8, SHOWN)
        for day in (0, 2, 9, 9999):
            no(self, is_showing, RULES, POSTINGS, day, SHOWN)
        yes(self, is_showing, RULES, POSTINGS, 0, {ANN: ((0,), 1), BOB: ((0, 1), 4), CY: ((1,), -5)})
        yes(self, is_showing, RULES, POSTINGS, 9, {**SHOWN, ANN: ((0, 2, 3, 4), 6), CY: ((1, 4), -9)})

    def test_other_accounts(self):
        for account in (("dan", "eur"), ("ann", "jpy"), ("world", "chf"), ("abcdefgh", "eur")):
            yes(self, is_showing, RULES, POSTINGS, 3, {**SHOWN, account: ((), 0)})
            for shown in (((), 1), ((0,), 0), ((), False), ([], 0), (), None, ((), 0, 0), (0, ()), [(), 0], ((), None)):
                no(self, is_showing, RULES, POSTINGS, 3, {**SHOWN, account: shown})
        yes(self, is_showing, RULES, POSTINGS, 3, {("dan", "eur"): ((), 0), **SHOWN, ("eve", "jpy"): ((), 0)})
        # an account whose postings are all behind the day
        late = POSTINGS + [(9, "e", ((("ann", "jpy"), 3), (("bob", "jpy"), -3)))]
        yes(self, is_showing, RULES, late, 8, SHOWN)
        yes(self, is_showing, RULES, late, 8, {**SHOWN, ("ann", "jpy"): ((), 0)})
        no(self, is_showing, RULES, late, 8, {**SHOWN, ("ann", "jpy"): ((5,), 3), ("bob", "jpy"): ((5,), -3)})

    def test_keys_that_are_no_accounts(self):
        for key in (("ann", "usd"), ("Ann", "eur"), ("", "eur"), ("abcdefghi", "eur"), "ann", 0, None, (), ("ann",),
                    True, ("ann", "eur", 0), (None, "eur"), ("ann", None), (("ann", "eur"),), (("ann",), "eur"),
                    ("ann", 1)):
            no(self, is_showing, RULES, POSTINGS, 3, {**SHOWN, key: ((), 0)})
            no(self, is_showing, RULES, [], 3, {key: ((), 0)})

    def test_truths(self):
        yes(self, is_showing, RULES, POSTINGS[:2], 0, {ANN: ((0,), 1), BOB: ((0, 1), 4), CY: ((1,), -5)})
        for shown in (((False,), 1), ((0,), True), (False, 1), (True, True)):
            no(self, is_showing, RULES, POSTINGS[:2], 0, {ANN: shown, BOB: ((0, 1), 4), CY: ((1,), -5)})
        no(self, is_showing, RULES, POSTINGS[:2], 0, {ANN: ((0,), 1), BOB: ((0, True), 4), CY: ((1,), -5)})

    def test_one_thing_otherwise(self):
        for at, house in enumerate(houses()):
            if at % 3 == 1:
                postings = postings_of(house)
                showing = showing_of(house)
                for thing in changed(showing, random.Random(at)):
                    self.look(postings, house.today(), thing)

    def test_one_part_otherwise(self):
        for account in SHOWN:
            for shown in otherwise(SHOWN[account]):
                self.look(POSTINGS, 3, {**SHOWN, account: shown})

    def test_other_days(self):
        for house in list(houses())[2:5]:
            postings = postings_of(house)
            showing = showing_of(house)
            for day in (0, 1, 29, 30, 31, house.today() - 1, house.today(), house.today() + 1, 9999):
                if 0 <= day:
                    self.look(postings, day, showing)

    def test_other_postings(self):
        for house in list(houses())[2:5]:
            postings = postings_of(house)
            showing = showing_of(house)
            for at in range(0, len(postings), 5):
                self.look(postings[:at] + postings[at + 1:], house.today(), showing)
                self.look(postings[:at + 1] + postings[at:], house.today(), showing)

    def test_other_orders_of_the_dict(self):
        for turn in range(5):
            keys = random.Random(turn).sample(sorted(SHOWN), len(SHOWN))
            yes(self, is_showing, RULES, POSTINGS, 3, {key: SHOWN[key] for key in keys})

    def test_things_of_other_kinds(self):
        for thing in NEITHER + (0, THIRTY, list(SHOWN.items()), tuple(SHOWN.items()), [SHOWN], (SHOWN,), POSTINGS,
                                list(SHOWN)):
            no(self, is_showing, RULES, POSTINGS, 3, thing)
            self.assertIs(is_showing(RULES, [], 3, thing), thing == {})

    def test_nothing_is_changed(self):
        postings = list(POSTINGS)
        thing = dict(SHOWN)
        yes(self, is_showing, RULES, postings, 3, thing)
        self.assertEqual(postings, POSTINGS)
        self.assertEqual(thing, SHOWN)


class Refusals(unittest.TestCase):
    def test_no_rules(self):
        for thing in NO_RULES:
            refused(self, NoRules, is_showing, thing, POSTINGS, 3, SHOWN)

    def test_no_postings(self):
        for thing in NO_POSTINGS:
            refused(self, NoPostings, is_showing, RULES, thing, 3, SHOWN)
            refused(self, NoPostings, is_showing, RULES, thing, 3, None)
        # of other rules these are none
        rules = ((("eur", 2, 1),), (), (), ())
        refused(self, NoPostings, is_showing, rules, POSTINGS, 3, SHOWN)
        yes(self, is_showing, rules, POSTINGS[:1], 3, {ANN: ((0,), 1), BOB: ((0,), -1)})

    def test_accounts_in_postings(self):
        for thing in NO_ACCOUNTS:
            refused(self, NoPostings, is_showing, RULES, [(0, "a", put(ROWS, (0, 0), thing))], 0, {})
            refused(self, NoPostings, is_showing, RULES, [(0, "a", put(ROWS, (1, 0), thing))], 0, {})

    def test_no_day(self):
        for thing in NO_DAYS:
            refused(self, NoDay, is_showing, RULES, POSTINGS, thing, SHOWN)

    def test_the_one_further_to_the_left_first(self):
        for wrong in (None, True, (), {}):
            refused(self, NoRules, is_showing, wrong, wrong, wrong, wrong)
            refused(self, NoPostings, is_showing, RULES, wrong, wrong, wrong)
            refused(self, NoDay, is_showing, thing=wrong, day=wrong, postings=POSTINGS, rules=RULES)


if __name__ == "__main__":
    unittest.main()

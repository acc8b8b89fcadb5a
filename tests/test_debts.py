"""[73], with [2] to [5] as far as they speak of debts."""

import itertools
import random
import unittest

from coinlaw.debts import are_lots, cleared, do_clear, nets
from coinlaw.errors import NoDebts
from helpers import NEITHER, THIRTY, asked, no, otherwise, refused, same_kind, yes

MOST = 1000000
WORDS = ("a", "ann", "b", "bob", "cy", "dan", "eve", "zzzzzzzz")
DEBTS = (("ann", "bob", 5), ("bob", "ann", 2), ("bob", "cy", 3), ("dan", "ann", 4))
# ann 1, bob 0, cy 3, dan -4

BY_HAND = (
    ((), {}, 0, 0),
    ((("ann", "bob", 5),), {"ann": -5, "bob": 5}, 1, 1),
    ((("ann", "bob", 5), ("bob", "ann", 5)), {"ann": 0, "bob": 0}, 0, 0),
    ((("ann", "bob", 5), ("bob", "ann", 2)), {"ann": -3, "bob": 3}, 1, 1),
    ((("ann", "bob", 5), ("bob", "cy", 5), ("cy", "ann", 5)), {"ann": 0, "bob": 0, "cy": 0}, 0, 0),
    ((("ann", "bob", 5), ("bob", "cy", 5)), {"ann": -5, "bob": 0, "cy": 5}, 1, 1),
    ((("ann", "bob", 5), ("cy", "dan", 5)), {"ann": -5, "bob": 5, "cy": -5, "dan": 5}, 2, 2),
    ((("ann", "bob", 5), ("cy", "dan", 7)), {"ann": -5, "bob": 5, "cy": -7, "dan": 7}, 2, 2),
    ((("ann", "bob", MOST), ("cy", "bob", MOST)), {"ann": -MOST, "bob": 2 * MOST, "cy": -MOST}, 2, 1),
    (DEBTS, {"ann": 1, "bob": 0, "cy": 3, "dan": -4}, 2, 1),
)


def nets_by_look(debts):
    told = {}
    for one, other, coins in debts:
        told[one] = told.get(one, 0) - coins
        told[other] = told.get(other, 0) + coins
    return told


def clears_by_look(debts, thing):
    """Each of the conditions by itself, word by word."""
    held = nets_by_look(debts)
    if type(thing) is not tuple:
        return False
    for row in thing:
        if type(row) is not tuple or len(row) != 3 or type(row[0]) is not str or type(row[1]) is not str:
            return False
        if row[0] not in held or row[1] not in held or row[0] == row[1] or type(row[2]) is not int or row[2] < 1:
            return False
    if list(thing) != sorted(thing) or len({row[:2] for row in thing}) < len(thing):
        return False
    for word in held:
        paid = sum(row[2] for row in thing if row[0] == word)
        got = sum(row[2] for row in thing if row[1] == word)
        if got - paid != held[word]:
            return False
    return True


def lots_by_look(debts, thing):
    held = nets_by_look(debts)
    if type(thing) is not tuple or any(type(lot) is not tuple or not lot for lot in thing):
        return False
    words = [word for lot in thing for word in lot]
    if any(type(word) is not str for word in words) or len(set(words)) < len(words):
        return False
    if set(words) != {word for word in held if held[word]}:
        return False
    if any(list(lot) != sorted(lot) or sum(held[word] for word in lot) for lot in thing):
        return False
    return list(thing) == sorted(thing)


def most_by_trying(debts):
    """How many lots there can be, by trying all sets of words: each is told to come last or not at all."""
    held = nets_by_look(debts)
    words = [word for word in held if held[word]]
    best = {(): 0}
    for many in range(1, len(words) + 1):
        for some in itertools.combinations(words, many):
            ahead = max(best[tuple(word for word in some if word != last)] for last in some)
            best[some] = ahead + (sum(held[word] for word in some) == 0)
    return best[tuple(words)], len(words)


def some_debts(chance):
    words = chance.sample(WORDS, chance.randint(2, 8))
    pairs = list(itertools.permutations(words, 2))
    pairs = chance.sample(pairs, chance.randint(0, min(20, len(pairs))))
    coins = chance.choice(((1,), (5,), (1, 2, 3), (MOST, 1), (MOST,), range(1, 10), range(1, MOST + 1)))
    return tuple(sorted((one, other, chance.choice(coins)) for one, other in pairs))


def many_debts():
    for turn in range(250):
        yield some_debts(random.Random(turn))


class Told(unittest.TestCase):
    def test_by_hand(self):
        for debts, held, many_payments, many_lots in BY_HAND:
            with self.subTest(debts=debts):
                self.assertEqual(asked(self, nets, debts), held)
                payments, lots = asked(self, cleared, debts)
                self.assertEqual((len(payments), len(lots)), (many_payments, many_lots))
                self.assertTrue(clears_by_look(debts, payments))
                self.assertTrue(lots_by_look(debts, lots))

    def test_only_one_way(self):
        same_kind(self, cleared((("ann", "bob", 5),)), ((("ann", "bob", 5),), (("ann", "bob"),)))
        same_kind(self, cleared(DEBTS), ((("dan", "ann", 1), ("dan", "cy", 3)), (("ann", "cy", "dan"),)))
        same_kind(self, cleared(()), ((), ()))
        same_kind(self, cleared((("ann", "bob", 5), ("bob", "ann", 5))), ((), ()))

    def test_many(self):
        for debts in many_debts():
            held = asked(self, nets, debts)
            self.assertEqual(held, nets_by_look(debts))
            self.assertEqual({type(net) for net in held.values()} | {int}, {int})
            self.assertEqual(sum(held.values()), 0)
            told = asked(self, cleared, debts)
            self.assertIs(type(told), tuple)
            payments, lots = told
            self.assertTrue(clears_by_look(debts, payments), debts)
            self.assertTrue(lots_by_look(debts, lots), debts)
            most, many = most_by_trying(debts)
            self.assertEqual(len(lots), most)
            self.assertEqual(len(payments), many - most)
            yes(self, do_clear, debts, payments)
            yes(self, are_lots, debts, lots)

    def test_all_of_eight_alike(self):
        debts = tuple((WORDS[at], WORDS[at + 4], 7) for at in range(4))
        payments, lots = cleared(debts)
        self.assertEqual((len(payments), len(lots)), (4, 4))
        # 7 lots can't be parted: seven ones are owed by one word
        debts = tuple((WORDS[0], other, 1) for other in WORDS[1:])
        payments, lots = cleared(debts)
        same_kind(self, (payments, lots), (debts, (WORDS,)))

    def test_a_greedy_way_would_miss(self):
        # -7 -5 -4 against 9 4 3: the two 4s by themselves, the others by three payments
        debts = (("a", "x", 7), ("b", "x", 2), ("b", "z", 3), ("c", "y", 4))
        payments, lots = cleared(debts)
        self.assertEqual(len(lots), 2)
        self.assertIn(("c", "y"), lots)
        self.assertEqual(len(payments), 4)

    def test_the_dict_is_the_askers(self):
        told = nets(DEBTS)
        told["ann"] = 99
        told.clear()
        self.assertEqual(nets(DEBTS), {"ann": 1, "bob": 0, "cy": 3, "dan": -4})

    def test_by_name(self):
        self.assertEqual(asked(self, nets, debts=DEBTS)["dan"], -4)
        self.assertEqual(len(asked(self, cleared, debts=DEBTS)[0]), 2)
        yes(self, do_clear, thing=DEBTS, debts=DEBTS)
        yes(self, are_lots, thing=(("ann", "cy", "dan"),), debts=DEBTS)
        no(self, do_clear, thing=(), debts=DEBTS)
        no(self, are_lots, thing=(), debts=DEBTS)


def led_over_a_third(payments, words):
    """Each payment led over each other word."""
    for at, (one, other, coins) in enumerate(payments):
        for third in words:
            if third not in (one, other):
                rest = dict((row[:2], row[2]) for row in payments[:at] + payments[at + 1:])
                for step in ((one, third), (third, other)):
                    rest[step] = rest.get(step, 0) + coins
                yield tuple(sorted(step + (rest[step],) for step in rest))


class PaymentsOfAnything(unittest.TestCase):
    def look(self, debts, thing):
        right = clears_by_look(debts, thing)
        self.assertIs(do_clear(debts, thing), right, (debts, thing))
        return right

    def test_the_debts_themselves(self):
        for debts in many_debts():
            yes(self, do_clear, debts, debts)

    def test_led_over_a_third_word(self):
        for debts in list(many_debts())[::5]:
            for payments in (debts, cleared(debts)[0]):
                for thing in led_over_a_third(payments, nets(debts)):
                    self.assertTrue(self.look(debts, thing))

    def test_both_ways_and_round_about(self):
        # more than the net, and what is more back again
        debts = (("ann", "bob", 5),)
        yes(self, do_clear, debts, (("ann", "bob", 6), ("bob", "ann", 1)))
        yes(self, do_clear, debts, (("ann", "bob", 5 + THIRTY), ("bob", "ann", THIRTY)))
        yes(self, do_clear, (("ann", "bob", 5), ("bob", "ann", 5)), ())
        yes(self, do_clear, (("ann", "bob", 5), ("bob", "ann", 5)), (("ann", "bob", THIRTY), ("bob", "ann", THIRTY)))
        no(self, do_clear, (("ann", "bob", 5), ("bob", "ann", 5)), (("ann", "bob", 1),))
        yes(self, do_clear, (("ann", "bob", MOST), ("cy", "bob", MOST)), (("ann", "cy", MOST), ("cy", "bob", 2 * MOST)))

    def test_shifted_by_a_coin_and_turned_about(self):
        for debts in list(many_debts())[::3]:
            for payments in (debts, cleared(debts)[0]):
                for at, (one, other, coins) in enumerate(payments):
                    for new in ((one, other, coins + 1), (one, other, coins - 1), (other, one, coins),
                                (one, other, -coins), (one, one, coins), (one, "other", coins), (other, one, -coins)):
                        self.assertFalse(self.look(debts, tuple(sorted(payments[:at] + (new,) + payments[at + 1:]))))
                turned = tuple(sorted((other, one, coins) for one, other, coins in payments))
                self.look(debts, turned)

    def test_words_that_are_not_of_the_debts(self):
        debts = (("ann", "bob", 5),)
        no(self, do_clear, debts, (("ann", "cy", 5), ("cy", "bob", 5)))
        no(self, do_clear, (), (("ann", "bob", 1), ("bob", "ann", 1)))
        yes(self, do_clear, (), ())

    def test_payments_that_are_none(self):
        debts = (("ann", "bob", 5),)
        no(self, do_clear, debts, (("ann", "ann", 1), ("ann", "bob", 5)))
        no(self, do_clear, debts, (("ann", "bob", 5), ("bob", "ann", 0)))
        no(self, do_clear, debts, (("ann", "bob", 4), ("bob", "ann", -1)))
        no(self, do_clear, debts, (("bob", "ann", -5),))

    def test_two_of_the_same_words(self):
        debts = (("ann", "bob", 5),)
        no(self, do_clear, debts, (("ann", "bob", 2), ("ann", "bob", 3)))
        no(self, do_clear, debts, (("ann", "bob", 5), ("ann", "bob", 5), ("bob", "ann", 5)))

    def test_not_rising(self):
        for debts in list(many_debts())[::4]:
            if len(debts) > 1:
                no(self, do_clear, debts, debts[::-1])
                no(self, do_clear, debts, debts[1:] + debts[:1])

    def test_one_thing_otherwise(self):
        for debts in (DEBTS, DEBTS[:1], (), BY_HAND[6][0], BY_HAND[2][0]):
            for payments in (debts, cleared(debts)[0]):
                for thing in otherwise(payments):
                    self.look(debts, thing)
        for thing in otherwise(DEBTS[:1]):
            no(self, do_clear, DEBTS[:1], thing)

    def test_truths(self):
        debts = (("ann", "bob", 1),)
        yes(self, do_clear, debts, (("ann", "bob", 1),))
        no(self, do_clear, debts, (("ann", "bob", True),))

    def test_things_of_other_kinds(self):
        for debts in (DEBTS, DEBTS[:1]):
            for thing in NEITHER + (0, THIRTY, list(debts), [list(row) for row in debts], dict(enumerate(debts)),
                                    (debts,), debts[0], nets(debts), cleared(debts), cleared(debts)[1]):
                no(self, do_clear, debts, thing)


class LotsOfAnything(unittest.TestCase):
    def look(self, debts, thing):
        right = lots_by_look(debts, thing)
        self.assertIs(are_lots(debts, thing), right, (debts, thing))
        return right

    def test_put_together_and_parted(self):
        for debts in many_debts():
            lots = cleared(debts)[1]
            for one, other in itertools.combinations(lots, 2):
                rest = [lot for lot in lots if lot not in (one, other)]
                self.assertTrue(self.look(debts, tuple(sorted(rest + [tuple(sorted(one + other))]))))
                if len(one) + len(other) > 2:
                    self.assertFalse(self.look(debts, tuple(sorted(rest + [one + other[:-1], other[-1:]]))))
            if lots:
                self.assertTrue(self.look(debts, (tuple(sorted(word for lot in lots for word in lot)),)))
            for at, lot in enumerate(lots):
                for cut in range(1, len(lot)):
                    parted = tuple(sorted(lots[:at] + (lot[:cut], lot[cut:]) + lots[at + 1:]))
                    self.assertFalse(self.look(debts, parted))
                self.assertFalse(self.look(debts, lots[:at] + lots[at + 1:]))
                self.assertFalse(self.look(debts, lots[:at + 1] + lots[at:]))

    def test_a_word_whose_net_is_nought(self):
        yes(self, are_lots, DEBTS, (("ann", "cy", "dan"),))
        no(self, are_lots, DEBTS, (("ann", "bob", "cy", "dan"),))
        no(self, are_lots, DEBTS, (("ann", "cy", "dan"), ("bob",)))
        debts = (("ann", "bob", 5), ("bob", "ann", 5))
        yes(self, are_lots, debts, ())
        for thing in ((("ann",),), (("ann",), ("bob",)), (("ann", "bob"),)):
            no(self, are_lots, debts, thing)

    def test_empty(self):
        yes(self, are_lots, (), ())
        no(self, are_lots, (), ((),))
        no(self, are_lots, (("ann", "bob", 5),), ())
        no(self, are_lots, (("ann", "bob", 5),), ((),))
        no(self, are_lots, (("ann", "bob", 5),), ((), ("ann", "bob")))
        no(self, are_lots, (), [])

    def test_orders(self):
        debts = (("ann", "bob", 5), ("cy", "dan", 5))
        for thing in ((("ann", "bob"), ("cy", "dan")), (("ann", "dan"), ("bob", "cy")), (("ann", "bob", "cy", "dan"),)):
            yes(self, are_lots, debts, thing)
        for thing in ((("cy", "dan"), ("ann", "bob")), (("bob", "ann"), ("cy", "dan")), (("ann", "cy"), ("bob", "dan")),
                      (("ann", "bob", "dan", "cy"),), (("ann", "bob"), ("ann", "bob"), ("cy", "dan")),
                      (("ann", "bob"), ("ann", "bob", "cy", "dan")), (("ann", "ann", "bob", "bob"), ("cy", "dan")),
                      (["ann", "bob"], ["cy", "dan"]), [("ann", "bob"), ("cy", "dan")], (("ann", "bob"), ("cy", "eve")),
                      ("ann", "bob", "cy", "dan"), (("ann", "bob"), ("cy", "dan", ())), (("ann", "bob"), None),
                      (("ann", "bob"), ("cy", True)), (("ann", "bob"), "cydan"), {("ann", "bob"): ("cy", "dan")}):
            no(self, are_lots, debts, thing)

    def test_one_thing_otherwise(self):
        for debts in (DEBTS, DEBTS[:1], (), BY_HAND[6][0], BY_HAND[2][0]):
            for thing in otherwise(cleared(debts)[1]):
                self.look(debts, thing)

    def test_things_of_other_kinds(self):
        for debts in (DEBTS, DEBTS[:1]):
            for thing in NEITHER + (0, THIRTY, list(cleared(debts)[1]), nets(debts), debts, cleared(debts), ("ann",)):
                no(self, are_lots, debts, thing)


class Refusals(unittest.TestCase):
    def wrong(self, thing):
        refused(self, NoDebts, nets, thing)
        refused(self, NoDebts, cleared, thing)
        for other in ((), None, True, [], DEBTS):
            refused(self, NoDebts, do_clear, thing, other)
            refused(self, NoDebts, are_lots, thing, other)

    def test_no_debts(self):
        for thing in tuple(thing for thing in NEITHER if thing != ()) + (
                0, "debts", list(DEBTS), DEBTS[::-1], DEBTS[0], (DEBTS,), DEBTS + DEBTS, (DEBTS[0], DEBTS[0]),
                (("ann", "bob", 5), ("ann", "bob", 6)), (("ann", "ann", 5),), (("ann", "bob"),), (["ann", "bob", 5],),
                (("ann", "bob", 5, 0),), (("ann", 5, "bob"),), dict(enumerate(DEBTS)), {}):
            self.wrong(thing)

    def test_a_part_otherwise(self):
        for at in range(3):
            for new in tuple(thing for thing in NEITHER if thing not in ("a", "abc")) + (
                    -1, 0, MOST + 1, THIRTY, -THIRTY, "Ann", "abcdefghi", "a b", "a1", "bob\n", ["ann"], ("ann",)):
                row = ["ann", "bob", 5]
                row[at] = new
                self.wrong((tuple(row),))
                self.wrong((("a", "b", 1), tuple(row)))

    def test_bounds(self):
        for coins in (1, MOST):
            self.assertEqual(nets((("a", "abcdefgh", coins),)), {"a": -coins, "abcdefgh": coins})
        pairs = sorted(itertools.permutations(WORDS, 2))
        twenty = tuple((one, other, 1) for one, other in pairs[:20])
        self.assertTrue(clears_by_look(twenty, cleared(twenty)[0]))
        self.wrong(tuple((one, other, 1) for one, other in pairs[:21]))
        eight = tuple(("a", word, 1) for word in WORDS[1:])
        self.assertEqual(len(nets(eight)), 8)
        self.wrong(tuple(sorted(eight + (("a", "nine", 1),))))
        self.wrong(tuple(sorted(eight + (("nine", "ten", 1),))))


if __name__ == "__main__":
    unittest.main()

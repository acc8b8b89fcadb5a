"""[60], [61] and [62], with [2] to [5] as far as they speak of loans."""

import itertools
import unittest
from fractions import Fraction

from coinlaw.errors import NoLoan
from coinlaw.fractions import is_fraction
from coinlaw.loans import exact_cost, is_plan, plan_of
from helpers import (
    CUSTOMS, NEITHER, THIRTY, asked, no, otherwise, pair, put, refused, round_by_hand, same_kind, yes,
)

MOST = 100000000
LOAN = (1000, 12, 100, 4, "even")
# coins, top, bottom, months: few coins and many, no interest and much, one month to sixty.
FORMS = (
    (1, 0, 1, 1), (1, 0, 1, 60), (1, 100, 1, 60), (2, 1, 1, 3), (5, 0, 1, 60), (10, 0, 1, 4), (10, 0, 7, 6),
    (59, 0, 1, 60), (60, 0, 1, 60), (61, 0, 1, 60), (100, 6, 1, 2), (100, 5, 100, 1), (100, 5, 100, 3),
    (1000, 12, 100, 12), (999, 7, 200, 24), (12345, 3, 1000, 36), (100000, 5, 100, 60), (7, 100, 1000, 7),
    (50, 100, 1, 10),
    (MOST, 0, 1, 60), (MOST, 1, 1000, 60), (MOST, 100, 1, 60), (MOST, 9, 100, 59), (MOST, 99, 1000, 1),
    (MOST - 1, 4, 100, 2), (3, 30, 100, 5), (40, 24, 100, 40), (120, 1, 1, 12),
)
SMALL = [form for form in FORMS if form[0] <= 1000]
LOANS = [form + (custom,) for form in FORMS for custom in CUSTOMS]
SMALL_LOANS = [form + (custom,) for form in SMALL for custom in CUSTOMS]


def exact_interest(loan, owed):
    return owed * Fraction(loan[1], loan[2]) / 12


def told_interest(loan, owed):
    return round_by_hand(exact_interest(loan, owed), loan[4])


def rows_by_hand(loan, payment):
    """The rows by a payment, None where something is owed behind all months."""
    rows = []
    owed = loan[0]
    for month in range(loan[3]):
        interest = told_interest(loan, owed)
        if owed + interest <= payment:
            return tuple(rows + [(owed + interest, interest, owed, 0)])
        back = payment - interest
        owed = owed - back
        rows.append((payment, interest, back, owed))
    return None


def is_plan_by_look(loan, thing):
    """Each of the conditions by itself."""
    if type(thing) is not tuple or not 1 <= len(thing) <= loan[3]:
        return False
    for row in thing:
        if type(row) is not tuple or [type(part) for part in row] != [int] * 4:
            return False
    ahead = [loan[0]] + [row[3] for row in thing]
    return all((
        all(row[1] == told_interest(loan, owed) for row, owed in zip(thing, ahead)),
        all(row[2] == row[0] - row[1] for row in thing),
        all(row[3] == owed - row[2] for row, owed in zip(thing, ahead)),
        thing[-1][3] == 0,
        len({row[0] for row in thing[:-1]}) <= 1,
        thing[-1][0] <= thing[0][0],
        all(row[0] >= 0 for row in thing),
    ))


def greater_plans(loan):
    """Plans with the least payment, few more, many more, and by one payment."""
    least = plan_of(loan)[0][0]
    whole = loan[0] + told_interest(loan, loan[0])
    for payment in {least, least + 1, least + 2, (least + whole) // 2, whole - 1, whole, whole + 1, 10 * whole}:
        if payment >= least:
            yield rows_by_hand(loan, payment)


class Plans(unittest.TestCase):
    def test_by_hand(self):
        for loan, plan in (
                ((10, 0, 1, 4, "even"), ((3, 0, 3, 7), (3, 0, 3, 4), (3, 0, 3, 1), (1, 0, 1, 0))),
                ((10, 0, 1, 6, "up"), ((2, 0, 2, 8), (2, 0, 2, 6), (2, 0, 2, 4), (2, 0, 2, 2), (2, 0, 2, 0))),
                ((1, 0, 1, 60, "down"), ((1, 0, 1, 0),)),
                ((100, 1, 1, 1, "down"), ((108, 8, 100, 0),)),
                ((100, 1, 1, 1, "up"), ((109, 9, 100, 0),)),
                ((100, 12, 100, 2, "even"), ((51, 1, 50, 50), (50, 0, 50, 0))),
                ((100, 12, 100, 2, "far"), ((51, 1, 50, 50), (51, 1, 50, 0))),
                ((100, 12, 100, 2, "up"), ((51, 1, 50, 50), (51, 1, 50, 0))),
                ((100, 12, 100, 2, "in"), ((51, 1, 50, 50), (50, 0, 50, 0))),
                ((100, 12, 100, 2, "out"), ((51, 1, 50, 50), (51, 1, 50, 0))),
                # 256 are too few, as 258 are owed in the end
                (LOAN, ((257, 10, 247, 753), (257, 8, 249, 504), (257, 5, 252, 252), (255, 3, 252, 0)))):
            with self.subTest(loan=loan):
                same_kind(self, asked(self, plan_of, loan), plan)

    def test_each_is_the_least_one(self):
        for loan in LOANS:
            plan = asked(self, plan_of, loan)
            payment = plan[0][0]
            same_kind(self, plan, rows_by_hand(loan, payment))
            self.assertIsNone(rows_by_hand(loan, payment - 1), loan)

    def test_by_trying_each_payment(self):
        for loan in SMALL_LOANS:
            payment = 0
            while rows_by_hand(loan, payment) is None:
                payment += 1
            same_kind(self, plan_of(loan), rows_by_hand(loan, payment))

    def test_each_month(self):
        for months in range(1, 61):
            for coins, top, custom in ((5000, 8, "even"), (60, 0, "down"), (777, 100, "out")):
                loan = (coins, top, 100, months, custom)
                plan = asked(self, plan_of, loan)
                same_kind(self, plan, rows_by_hand(loan, plan[0][0]))
                self.assertIsNone(rows_by_hand(loan, plan[0][0] - 1))

    def test_what_is_paid_back_is_the_loan(self):
        for loan in LOANS:
            plan = plan_of(loan)
            self.assertEqual(sum(row[2] for row in plan), loan[0])
            self.assertEqual(sum(row[0] for row in plan), loan[0] + sum(row[1] for row in plan))
            self.assertEqual(plan[-1][3], 0)
            self.assertTrue(1 <= len(plan) <= loan[3])
            self.assertTrue(all(row[3] > 0 for row in plan[:-1]))
            self.assertEqual({row[0] for row in plan[:-1]} | {plan[0][0]}, {plan[0][0]})
            self.assertTrue(0 < plan[-1][0] <= plan[0][0])

    def test_fewer_rows_than_months(self):
        for loan, many in (((5, 0, 1, 60, "up"), 5), ((10, 0, 1, 6, "up"), 5), ((61, 0, 1, 60, "even"), 31),
                           ((60, 0, 1, 60, "even"), 60), ((59, 0, 1, 60, "even"), 59), ((1, 0, 1, 2, "far"), 1)):
            self.assertEqual(len(plan_of(loan)), many)

    def test_by_name(self):
        same_kind(self, asked(self, plan_of, loan=(1, 0, 1, 60, "down")), ((1, 0, 1, 0),))
        yes(self, is_plan, thing=((1, 0, 1, 0),), loan=(1, 0, 1, 60, "down"))
        no(self, is_plan, thing=((2, 0, 2, 0),), loan=(1, 0, 1, 60, "down"))
        same_kind(self, asked(self, exact_cost, loan=(100, 1, 1, 1, "down")), (1, 3))


class PlansOfAnything(unittest.TestCase):
    def look(self, loan, thing):
        right = is_plan_by_look(loan, thing)
        self.assertIs(is_plan(loan, thing), right, (loan, thing))
        return right

    def test_the_plan_and_greater_payments(self):
        for loan in LOANS:
            yes(self, is_plan, loan, plan_of(loan))
            for plan in greater_plans(loan):
                self.assertTrue(self.look(loan, plan))

    def test_a_lesser_payment(self):
        for loan in LOANS:
            payment = plan_of(loan)[0][0] - 1
            longer = loan[:3] + (1000, loan[4])
            rows = rows_by_hand(longer, payment)
            if rows is not None:
                no(self, is_plan, loan, rows)
            # the right number of rows, the last payment as great as it needs to be
            owed = loan[0]
            rows = []
            for month in range(loan[3]):
                interest = told_interest(loan, owed)
                paid = payment if month < loan[3] - 1 else owed + interest
                owed -= paid - interest
                rows.append((paid, interest, paid - interest, owed))
            if loan[3] > 1:
                no(self, is_plan, loan, tuple(rows))

    def test_one_thing_otherwise(self):
        for loan in SMALL_LOANS[::5] + [LOAN, (5000, 9, 100, 5, "up")]:
            for plan in greater_plans(loan):
                if len(plan) <= 6:
                    for thing in otherwise(plan):
                        self.look(loan, thing)
        for thing in otherwise(plan_of(LOAN)):
            no(self, is_plan, LOAN, thing)

    def test_a_row_more_or_fewer(self):
        for loan in SMALL_LOANS:
            for plan in greater_plans(loan):
                for at in range(len(plan)):
                    self.look(loan, plan[:at] + plan[at + 1:])
                    self.look(loan, plan[:at + 1] + plan[at:])
                for row in (plan[0], plan[-1], (0, 0, 0, 0), (plan[0][0], 0, plan[0][0], -plan[0][0]), (), (0, 0, 0)):
                    self.look(loan, plan + (row,))
                    self.look(loan, (row,) + plan)

    def test_more_rows_than_months(self):
        # three payments are right by three months only
        rows = ((4, 0, 4, 6), (4, 0, 4, 2), (2, 0, 2, 0))
        for months in (3, 4, 60):
            yes(self, is_plan, (10, 0, 1, months, "even"), rows)
        for months in (1, 2):
            no(self, is_plan, (10, 0, 1, months, "even"), rows)
        yes(self, is_plan, (10, 0, 1, 1, "even"), ((10, 0, 10, 0),))
        no(self, is_plan, (10, 0, 1, 1, "even"), ())
        no(self, is_plan, (10, 0, 1, 60, "even"), ())

    def test_payments_alike_but_the_last_one(self):
        loan = (10, 0, 1, 4, "even")
        yes(self, is_plan, loan, ((5, 0, 5, 5), (5, 0, 5, 0)))
        yes(self, is_plan, loan, ((9, 0, 9, 1), (1, 0, 1, 0)))
        yes(self, is_plan, loan, ((3, 0, 3, 7), (3, 0, 3, 4), (3, 0, 3, 1), (1, 0, 1, 0)))
        no(self, is_plan, loan, ((1, 0, 1, 9), (9, 0, 9, 0)))
        no(self, is_plan, loan, ((3, 0, 3, 7), (3, 0, 3, 4), (4, 0, 4, 0)))
        no(self, is_plan, loan, ((4, 0, 4, 6), (3, 0, 3, 3), (3, 0, 3, 0)))
        no(self, is_plan, loan, ((3, 0, 3, 7), (4, 0, 4, 3), (3, 0, 3, 0)))
        no(self, is_plan, loan, ((5, 0, 5, 5), (5, 0, 5, 0), (5, 0, 5, -5), (-5, 0, -5, 0)))
        no(self, is_plan, loan, ((11, 0, 11, -1), (-1, 0, -1, 0)))
        no(self, is_plan, loan, ((3, 0, 3, 7), (3, 0, 3, 4), (3, 0, 3, 1)))

    def test_a_last_payment_of_nought(self):
        # nothing is owed ahead of it: each condition of the point is kept
        yes(self, is_plan, (10, 0, 1, 4, "even"), ((5, 0, 5, 5), (5, 0, 5, 0), (0, 0, 0, 0)))
        no(self, is_plan, (10, 0, 1, 4, "even"), ((5, 0, 5, 5), (5, 0, 5, 0), (0, 0, 0, 0), (0, 0, 0, 0)))
        no(self, is_plan, (10, 0, 1, 2, "even"), ((5, 0, 5, 5), (5, 0, 5, 0), (0, 0, 0, 0)))

    def test_each_small_plan(self):
        for loan in ((3, 4, 1, 3, "up"), (2, 6, 1, 2, "even"), (3, 0, 1, 3, "down")):
            numbers = range(-1, 5)
            rows = list(itertools.product(numbers, repeat=4))
            for row in rows:
                self.look(loan, (row,))
            first = [row for row in rows if row[2] == row[0] - row[1] and row[3] == loan[0] - row[2]]
            for one, two in itertools.product(first, rows):
                self.look(loan, (one, two))

    def test_truths(self):
        yes(self, is_plan, (1, 0, 1, 1, "up"), ((1, 0, 1, 0),))
        for row in ((True, 0, 1, 0), (1, False, 1, 0), (1, 0, True, 0), (1, 0, 1, False)):
            no(self, is_plan, (1, 0, 1, 1, "up"), (row,))

    def test_plans_of_other_loans(self):
        for one, other in itertools.product(LOANS[::7], LOANS[::11]):
            self.look(one, plan_of(other))

    def test_things_of_other_kinds(self):
        for loan in ((1, 0, 1, 1, "up"), LOAN, LOANS[-1]):
            plan = plan_of(loan)
            for thing in NEITHER + (0, 1, THIRTY, loan, [loan], list(plan), [list(row) for row in plan], plan[0],
                                    (plan,), tuple(list(row) for row in plan), dict(enumerate(plan))):
                no(self, is_plan, loan, thing)


class Costs(unittest.TestCase):
    def test_by_hand(self):
        same_kind(self, asked(self, exact_cost, (10, 0, 1, 4, "even")), (0, 1))
        same_kind(self, asked(self, exact_cost, (100, 1, 1, 1, "down")), (1, 3))
        same_kind(self, asked(self, exact_cost, (100, 1, 1, 1, "up")), (-2, 3))
        # 1, then 1/2 by 0 and by 1
        same_kind(self, asked(self, exact_cost, (100, 12, 100, 2, "even")), (1, 2))
        same_kind(self, asked(self, exact_cost, (100, 12, 100, 2, "far")), (-1, 2))
        # 10, 7.53, 5.04, 2.52
        same_kind(self, asked(self, exact_cost, LOAN), (-91, 100))

    def test_each(self):
        for loan in LOANS:
            cost = Fraction(0)
            owed = loan[0]
            for payment, interest, back, left in plan_of(loan):
                cost += exact_interest(loan, owed) - interest
                owed = left
            told = asked(self, exact_cost, loan)
            self.assertTrue(is_fraction(told))
            same_kind(self, told, pair(cost))


class Refusals(unittest.TestCase):
    def wrong(self, thing):
        refused(self, NoLoan, plan_of, thing)
        refused(self, NoLoan, is_plan, thing, ((1, 0, 1, 0),))
        refused(self, NoLoan, is_plan, thing, None)
        refused(self, NoLoan, exact_cost, thing)

    def test_no_loan(self):
        for thing in NEITHER + (0, 1, "loan", list(LOAN), LOAN[:4], LOAN[1:], LOAN + (1,), (LOAN,), LOAN[::-1],
                                dict(enumerate(LOAN))):
            self.wrong(thing)

    def test_a_part_otherwise(self):
        for at in range(5):
            for new in NEITHER + (-1, THIRTY, -THIRTY, [LOAN[at]], (LOAN[at],), str(LOAN[at]) + " "):
                self.wrong(put(LOAN, (at,), new))

    def test_bounds(self):
        for at, least, most in ((0, 1, MOST), (1, 0, 100), (2, 1, 1000), (3, 1, 60)):
            for number in (least, most):
                loan = put(LOAN, (at,), number)
                self.assertIs(is_plan(loan, plan_of(loan)), True)
                exact_cost(loan)
            for number in (least - 1, most + 1):
                self.wrong(put(LOAN, (at,), number))
        for custom in CUSTOMS:
            plan_of(put(LOAN, (4,), custom))
        for custom in ("Even", "even ", "odd", 0):
            self.wrong(put(LOAN, (4,), custom))


if __name__ == "__main__":
    unittest.main()

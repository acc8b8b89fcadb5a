"""Loans, their plans of payments and what is rounded away by them."""

from coinlaw.days import YEAR_MONTHS
from coinlaw.errors import NoLoan
from coinlaw.fractions import plus
from coinlaw.kinds import is_tuple_of, is_whole, is_within
from coinlaw.roundings import is_custom, rounded


def is_loan(thing):
    if not is_tuple_of(thing, 5, 5):
        return False
    coins, top, bottom, months, custom = thing
    if not is_within(coins, 1, 100000000) or not is_within(top, 0, 100) or not is_within(bottom, 1, 1000):
        return False
    return is_within(months, 1, 60) and is_custom(custom)


def plan_of(loan):
    """The plan with the least payment: rows (payment, interest, back, owed)."""
    refuse_no_loan(loan)
    return rows_with(loan, least_payment(loan))


def least_payment(loan):
    coins = loan[0]
    interest, rest = interest_on(loan, coins)
    # By this one nothing is owed behind the first month. A greater payment never leaves more owed.
    enough = coins + interest
    short = 0
    while enough - short > 1:
        middle = (short + enough) // 2
        if rows_with(loan, middle)[-1][3] == 0:
            enough = middle
        else:
            short = middle
    return enough


def rows_with(loan, payment):
    """The rows by a payment, until nothing is owed any more or all months are over."""
    owed = loan[0]
    rows = []
    while owed > 0 and len(rows) < loan[3]:
        interest, rest = interest_on(loan, owed)
        paid = min(payment, owed + interest)
        back = paid - interest
        owed -= back
        rows.append((paid, interest, back, owed))
    return tuple(rows)


def interest_on(loan, owed):
    """A month's interest: (told, rest)."""
    coins, top, bottom, months, custom = loan
    return rounded(owed * top, bottom * YEAR_MONTHS, custom)


def is_plan(loan, thing):
    """Whether thing is a plan of the loan, by whatever payment."""
    refuse_no_loan(loan)
    if not is_tuple_of(thing, 1, loan[3]) or not all([is_row(row) for row in thing]):
        return False
    return are_payments([row[0] for row in thing]) and comes_to_nought(loan, thing)


def is_row(thing):
    return is_tuple_of(thing, 4, 4) and all([is_whole(part) for part in thing])


def are_payments(payments):
    """Whether all are alike but the last one, which is no greater, and none is below 0."""
    first = payments[0]
    return all([payment == first for payment in payments[:-1]]) and 0 <= payments[-1] <= first


def comes_to_nought(loan, rows):
    """Whether each row follows from what was owed ahead of it, and nothing is owed in the end."""
    owed = loan[0]
    for payment, interest, back, left in rows:
        if interest != interest_on(loan, owed)[0] or back != payment - interest or left != owed - back:
            return False
        owed = left
    return owed == 0


def exact_cost(loan):
    """What all exact interest of the loan's plan is more than the told one."""
    plan = plan_of(loan)
    owed = loan[0]
    cost = (0, 1)
    for payment, interest, back, left in plan:
        told, rest = interest_on(loan, owed)
        cost = plus(cost, rest)
        owed = left
    return cost


def refuse_no_loan(thing):
    if not is_loan(thing):
        raise NoLoan("a loan is a tuple of coins, a top and a bottom of a year's interest, months and a custom")

"""Debts, their nets, and the fewest payments that clear them."""

from coinlaw.errors import NoDebts
from coinlaw.kinds import is_rising, is_tuple_of, is_whole, is_within, is_word


def are_debts(thing):
    if not is_tuple_of(thing, 0, 20) or not all([is_debt(row) for row in thing]):
        return False
    # Rows with unlike pairs of words rise just where these do; likewise of payments.
    return is_rising([row[:2] for row in thing]) and len(words_of(thing)) <= 8


def is_debt(thing):
    if not is_tuple_of(thing, 3, 3):
        return False
    one, other, coins = thing
    return is_word(one) and is_word(other) and one != other and is_within(coins, 1, 1000000)


def refuse_no_debts(thing):
    if not are_debts(thing):
        raise NoDebts("debts are a rising tuple of at most twenty tuples of two unlike words and coins, of eight words")


def words_of(debts):
    """All words of the debts, rising."""
    return sorted(set([word for row in debts for word in row[:2]]))


def nets(debts):
    """For each word what it is owed less what it owes."""
    refuse_no_debts(debts)
    return {word: net_of(word, debts) for word in words_of(debts)}


def net_of(word, rows):
    """What rows (one, other, coins) have for a word less what they have against it."""
    return sum([coins for one, other, coins in rows if other == word]) - sum([row[2] for row in rows if row[0] == word])


def unsettled(held):
    """The words whose nets are not 0, rising."""
    return [word for word in held if held[word] != 0]


def cleared(debts):
    """(payments, lots): some of the fewest payments that clear, and some of the most lots."""
    held = nets(debts)
    lots = most_lots(held, unsettled(held))
    payments = [row for lot in lots for row in payments_in(held, lot)]
    return tuple(sorted(payments)), tuple(sorted(lots))


def most_lots(held, words):
    """All words in as many lots as there can be."""
    best = []
    for lot in lots_with_first(held, words):
        lots = [lot] + most_lots(held, [word for word in words if word not in lot])
        if len(lots) > len(best):
            best = lots
    return best


def lots_with_first(held, words):
    """Each lot that can be made of words and has the first one of them."""
    found = [words[:1]]
    for word in words[1:]:
        found = found + [[*lot, word] for lot in found]
    return [tuple(lot) for lot in found if lot and sum([held[word] for word in lot]) == 0]


def payments_in(held, lot):
    """Payments by which each word of a lot comes to its net."""
    # Each payment settles a word. But for the last one none settles two: those settled by then would be a lot
    # of their own, and one of the most lots holds no lesser one. So there is one payment fewer than words.
    left = {word: abs(held[word]) for word in lot}
    owing = [word for word in lot if held[word] < 0]
    due = [word for word in lot if held[word] > 0]
    rows = []
    while owing:
        one = owing[0]
        other = due[0]
        coins = min(left[one], left[other])
        rows.append((one, other, coins))
        left[one] -= coins
        left[other] -= coins
        owing = [word for word in owing if left[word] > 0]
        due = [word for word in due if left[word] > 0]
    return rows


def do_clear(debts, thing):
    """Whether thing is payments that clear the debts."""
    refuse_no_debts(debts)
    words = words_of(debts)
    if not isinstance(thing, tuple) or not all([is_payment(row, words) for row in thing]):
        return False
    return is_rising([row[:2] for row in thing]) and all([net_of(word, thing) == net_of(word, debts) for word in words])


def is_payment(thing, words):
    if not is_tuple_of(thing, 3, 3):
        return False
    one, other, coins = thing
    return one in words and other in words and one != other and is_whole(coins) and coins >= 1


def are_lots(debts, thing):
    """Whether thing is lots of the debts."""
    held = nets(debts)
    if not isinstance(thing, tuple) or not all([is_lot(held, lot) for lot in thing]):
        return False
    return is_rising(thing) and sorted([word for lot in thing for word in lot]) == unsettled(held)


def is_lot(held, thing):
    if not isinstance(thing, tuple) or not thing or not all([word in list(held) for word in thing]):
        return False
    return is_rising(thing) and sum([held[word] for word in thing]) == 0

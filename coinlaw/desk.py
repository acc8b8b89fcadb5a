"""A desk: a house that is told and asked line by line."""

from coinlaw.amounts import amount_in, amount_text
from coinlaw.days import date_of
from coinlaw.errors import NoLine
from coinlaw.houses import House
from coinlaw.kinds import are_figures, is_code, is_word
from coinlaw.rates import rate

# What stands behind the first word of a line: codes and lines take all words that are left, an amount takes two.
FORMS = {
    "join": ("word", "code"),
    "bring": ("word", "amount"),
    "take": ("word", "amount"),
    "give": ("word", "word", "amount"),
    "swap": ("word", "amount", "codes"),
    "lend": ("word", "amount", "number"),
    "on": ("number",),
    "undo": (),
    "sell": ("word", "word", "code", "per", "lines"),
    "today": (),
    "balance": ("word", "code"),
    "owed": ("word", "code"),
    "rates": ("code", "code"),
    "sums": (),
    "log": (),
}


def word_in(rules, text):
    return text if is_word(text) else None


def code_in(rules, text):
    # One that the rules have not is a code all the same, which the house refuses.
    return text if is_code(text) else None


def amount_above_nought(rules, text):
    amount = amount_in(rules, text)
    return amount if amount is not None and amount[0] > 0 else None


def number_in(rules, text):
    if not are_figures(text) or len(text) > 9 or (len(text) > 1 and text.startswith("0")):
        return None
    return int(text)


def per_in(rules, text):
    return text if text in ("line", "sum") else None


def codes_in(rules, text):
    codes = text.split(" ")
    return tuple(codes) if all([is_code(code) for code in codes]) else None


def lines_in(rules, text):
    lines = [sold_in(rules, part) for part in text.split(" ")]
    return None if None in lines else tuple(lines)


def sold_in(rules, text):
    """The line (sort, coins, many) of a bill."""
    parts = text.split(":")
    if len(parts) != 3:
        return None
    sold = (word_in(rules, parts[0]), number_in(rules, parts[1]), number_in(rules, parts[2]))
    return None if None in sold else sold


READERS = {
    "word": word_in,
    "code": code_in,
    "amount": amount_above_nought,
    "number": number_in,
    "per": per_in,
    "codes": codes_in,
    "lines": lines_in,
}


def read_line(rules, line):
    """The first word of a line, and what the others write by its form."""
    if not isinstance(line, str):
        raise NoLine("a line is a text")
    first, *words = line.split(" ")
    if first not in FORMS:
        raise NoLine("no line begins so")
    things = []
    for kind in FORMS[first]:
        width = width_of(kind, words)
        reader = READERS[kind]
        things.append(reader(rules, " ".join(words[:width])))
        words = words[width:]
    if words or None in things:
        raise NoLine("a line that begins so has another form")
    return first, things


def width_of(kind, words):
    """How many of the words that are left are of a kind."""
    if kind in ("codes", "lines"):
        return len(words)
    return 2 if kind == "amount" else 1


def do_join(house, person, code):
    house.join(person, code)
    return "ok"


def do_bring(house, person, amount):
    coins, code = amount
    house.bring(person, code, coins)
    return "ok"


def do_take(house, person, amount):
    coins, code = amount
    house.take(person, code, coins)
    return "ok"


def do_give(house, one, other, amount):
    coins, code = amount
    house.give(one, other, code, coins)
    return "ok"


def do_swap(house, person, amount, codes):
    coins, code = amount
    house.swap(person, (code, *codes), coins)
    return "ok"


def do_lend(house, person, amount, months):
    coins, code = amount
    house.lend(person, code, coins, months)
    return "ok"


def do_on(house, days):
    house.on(days)
    return "ok"


def do_undo(house):
    house.undo()
    return "ok"


def do_sell(house, seller, buyer, code, per, lines):
    return amount_text(house.rules, house.sell(seller, buyer, code, lines, per=per), code)


def tell_today(house):
    year, month, days = date_of(house.today())
    return f"{year}-{month}-{days}"


def tell_balance(house, word, code):
    return amount_text(house.rules, house.balance(word, code), code)


def tell_owed(house, person, code):
    return amount_text(house.rules, house.owed(person, code), code)


def tell_rate(house, one, other):
    told = rate(house.rules, house.today(), one, other)
    return "none" if told is None else f"{told[0]}/{told[1]}"


def tell_sums(house):
    trial = house.book().trial(house.today())
    sums = [sum([coins for word, coins in trial[code]]) for code in trial]
    return "right" if all([total == 0 for total in sums]) else "wrong"


def tell_log(house):
    return str(len(house))


ACTIONS = {
    "join": do_join,
    "bring": do_bring,
    "take": do_take,
    "give": do_give,
    "swap": do_swap,
    "lend": do_lend,
    "on": do_on,
    "undo": do_undo,
    "sell": do_sell,
    "today": tell_today,
    "balance": tell_balance,
    "owed": tell_owed,
    "rates": tell_rate,
    "sums": tell_sums,
    "log": tell_log,
}


class Desk:
    """Keeps a house."""

    def __init__(self, rules, part):
        self.house = House(rules, part)

    def say(self, line):
        """Does what a line tells, or answers what it asks."""
        first, things = read_line(self.house.rules, line)
        action = ACTIONS[first]
        return action(self.house, *things)

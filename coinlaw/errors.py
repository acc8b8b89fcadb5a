"""Each kind of refusal, by its own class."""


class CoinError(ValueError):
    """Whatever this package refuses."""


class NoThing(CoinError):
    """What is handed in is none of the things asked for."""


class NotNow(CoinError):
    """What is handed in is right, but can't be done now."""


class NoDay(NoThing):
    """What is no day."""


class NoDate(NoThing):
    """What is no date of a day."""


class NoRules(NoThing):
    """What are no rules."""


class NoNumber(NoThing):
    """What is no number of the sort asked for."""


class NoCustom(NoThing):
    """What is no custom of rounding."""


class NoStep(NoThing):
    """What is no step of a rounding."""


class NoCoins(NoThing):
    """What are no coins."""


class NoWeights(NoThing):
    """What are no weights."""


class NoWay(NoThing):
    """What is no way to split."""


class NoTable(NoThing):
    """What is no table."""


class NoCode(NoThing):
    """What is no code of the rules' currencies."""


class NoRoad(NoThing):
    """What is no road."""


class NoBill(NoThing):
    """What is no bill."""


class NoPer(NoThing):
    """What taxes can't be rounded per."""


class NoBands(NoThing):
    """What are no bands."""


class NoGoal(NoThing):
    """What is no goal."""


class NoLoan(NoThing):
    """What is no loan."""


class NoAccount(NoThing):
    """What is no account."""


class NoText(NoThing):
    """What is no text of the form asked for."""


class NoRows(NoThing):
    """What are no rows of a posting."""


class NoBook(NoThing):
    """What is no book."""


class NoPart(NoThing):
    """What is no part of a year's interest."""


class NoDebts(NoThing):
    """What are no debts."""


class NoPerson(NoThing):
    """What is no person."""


class NoMonths(NoThing):
    """What are no months of a loan."""


class NoDays(NoThing):
    """What are no days to go by."""


class NoHouse(NoThing):
    """What is no house."""


class NoPostings(NoThing):
    """What are no postings."""


class NoLine(NoThing):
    """What is no line for a desk."""


class Open(NotNow):
    """An account that was begun already."""


class Early(NotNow):
    """A day ahead of the last posting's."""


class Short(NotNow):
    """A balance that is less than what is needed."""


class Over(NotNow):
    """A day beyond the last one would come."""


class Nothing(NotNow):
    """No deed stands that could be undone."""

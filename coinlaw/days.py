"""Days and their dates."""

from coinlaw.errors import NoDate, NoDay
from coinlaw.kinds import is_tuple_of, is_whole, is_within

LAST_DAY = 9999
MONTH_DAYS = 30
YEAR_MONTHS = 12
YEAR_DAYS = 360


def is_day(thing):
    return is_within(thing, 0, LAST_DAY)


def refuse_no_day(thing):
    if not is_day(thing):
        raise NoDay("a day is a whole number from 0 to 9,999")


def date_of(day):
    """The date (year, month, day of the month) of a day."""
    refuse_no_day(day)
    months, days = divmod(day, MONTH_DAYS)
    year, month = divmod(months, YEAR_MONTHS)
    return year, month + 1, days + 1


def day_of(date):
    """The day that has a date."""
    if not is_calendar_date(date):
        raise NoDate("a date is a tuple of a year, a month and a day of the month")
    year, month, days = date
    day = (year * YEAR_MONTHS + month - 1) * MONTH_DAYS + days - 1
    if not is_day(day):
        raise NoDate("no day from 0 to 9,999 has such a date")
    return day


def is_calendar_date(thing):
    """Whether thing is formed as a date, in whatever year."""
    if not is_tuple_of(thing, 3, 3):
        return False
    year, month, days = thing
    return is_whole(year) and is_within(month, 1, YEAR_MONTHS) and is_within(days, 1, MONTH_DAYS)

"""[10], with [2], [3] and [4] as far as they speak of days."""

import unittest

from coinlaw.days import date_of, day_of
from coinlaw.errors import NoDate, NoDay
from helpers import NEITHER, THIRTY, asked, refused, same_kind

PAIRS = (
    (0, (0, 1, 1)), (1, (0, 1, 2)), (29, (0, 1, 30)), (30, (0, 2, 1)), (59, (0, 2, 30)), (60, (0, 3, 1)),
    (329, (0, 11, 30)), (330, (0, 12, 1)), (359, (0, 12, 30)), (360, (1, 1, 1)), (389, (1, 1, 30)),
    (390, (1, 2, 1)), (399, (1, 2, 10)), (719, (1, 12, 30)), (720, (2, 1, 1)), (9719, (26, 12, 30)),
    (9720, (27, 1, 1)), (9998, (27, 10, 9)), (9999, (27, 10, 10)),
)

NO_DAYS = (-1, -30, -360, 10000, 10001, THIRTY, -THIRTY, 10 ** 30 - 1)

NO_DATES = (
    # a list in place of the tuple
    [0, 1, 1], [1, 2, 10],
    # a part more or fewer
    (), (0,), (0, 1), (1, 1), (0, 1, 1, 0), (0, 1, 1, 1), (0, 1, 1, None), ((0, 1, 1),),
    # a part that is no number
    (True, 1, 1), (False, 1, 1), (0, True, 1), (0, 1, True), (0, False, 1), (0, 1, False),
    (None, 1, 1), (0, None, 1), (0, 1, None), ("0", 1, 1), (0, "1", 1), (0, 1, "1"), ("", "", ""), "011",
    ([0], 1, 1), (0, (1,), 1), (0, 1, {}), ({}, {}, {}), (0, [], 1),
    # a number out of its bounds
    (0, 0, 1), (0, 13, 1), (1, 0, 30), (0, 1, 0), (0, 2, 0), (1, 1, 0), (0, 1, 31), (0, 12, 31),
    (0, -1, 1), (0, 1, -1), (0, 14, -1),
    (-1, 1, 1), (-1, 12, 30), (-THIRTY, 1, 1), (0, -THIRTY, 1), (0, 1, -THIRTY),
    (THIRTY, 1, 1), (0, THIRTY, 1), (0, 1, THIRTY),
    # behind the date of the last day
    (27, 10, 11), (27, 10, 30), (27, 11, 1), (27, 12, 30), (28, 1, 1), (28, 10, 10),
    # of other kinds
    0, 399, -1, THIRTY, {0: 0, 1: 1, 2: 1}, {"year": 0, "month": 1, "day": 1},
)


class Days(unittest.TestCase):
    def test_dates_of_days(self):
        for day, date in PAIRS:
            with self.subTest(day=day):
                same_kind(self, asked(self, date_of, day), date)

    def test_days_of_dates(self):
        for day, date in PAIRS:
            with self.subTest(date=date):
                same_kind(self, asked(self, day_of, date), day)

    def test_each_day_there_and_back(self):
        for day in range(10000):
            date = date_of(day)
            self.assertEqual([type(part) for part in date], [int, int, int])
            same_kind(self, day_of(date), day)

    def test_each_date_follows_the_one_ahead(self):
        year, month, days = date_of(0)
        for day in range(1, 10000):
            days += 1
            if days == 31:
                month, days = month + 1, 1
            if month == 13:
                year, month = year + 1, 1
            same_kind(self, date_of(day), (year, month, days))

    def test_by_name(self):
        same_kind(self, asked(self, date_of, day=399), (1, 2, 10))
        same_kind(self, asked(self, day_of, date=(1, 2, 10)), 399)

    def test_no_day(self):
        for thing in NEITHER + NO_DAYS + ((0,), [0], "399", (0, 1, 1)):
            with self.subTest(repr(thing)[:80]):
                refused(self, NoDay, date_of, thing)
                refused(self, NoDay, date_of, day=thing)

    def test_no_date(self):
        for thing in NEITHER + NO_DATES:
            with self.subTest(repr(thing)[:80]):
                refused(self, NoDate, day_of, thing)
                refused(self, NoDate, day_of, date=thing)


if __name__ == "__main__":
    unittest.main()

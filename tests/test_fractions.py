"""[20], with [2], [3] as far as they speak of fractions."""

import math
import unittest

from coinlaw.fractions import fraction_of, is_fraction
from helpers import NEITHER, THIRTY, TRUTHS, asked, same_kind

FRACTIONS = (
    (0, 1), (1, 1), (-1, 1), (1, 2), (-1, 2), (2, 3), (3, 2), (-3, 2), (7, 100), (-99, 100), (5, 1), (-5, 1),
    (10 ** 30 - 1, 1), (-(10 ** 30 - 1), 1), (1, 10 ** 30 - 1), (-1, 10 ** 30 - 1), (10 ** 30 - 1, THIRTY),
    (THIRTY, THIRTY + 1), (2 ** 97, 3 ** 61), (10 ** 80, 3 ** 150),
)

NO_FRACTIONS = (
    (0, 2), (0, 100), (0, THIRTY), (2, 2), (-2, 2), (2, 4), (-2, 4), (6, 4), (4, 2), (-4, 2), (15, 25), (91, 49),
    (THIRTY, THIRTY), (THIRTY, 10), (2 ** 97, 2), (-THIRTY, 2), (10 ** 80, 10 ** 79),
    (0, 0), (1, 0), (-1, 0), (0, -1), (1, -1), (-1, -1), (1, -2), (-1, -2), (3, -THIRTY),
    (True, 1), (False, 1), (1, True), (0, True), (True, 2), (1, False), (True, True), (False, False),
    [0, 1], [1, 2], [[1, 2]], (), (1,), (0, 1, 1), (1, 2, 3), (1, 2, None), ((1, 2),), ((1, 2), 3),
    (None, 1), (1, None), ("1", 2), (1, "2"), ([1], 2), (1, [2]), ({}, 1), (1, {}), (1, ()), ((), 1),
    0, 1, -1, THIRTY, "12", "1/2", {1: 2}, {"top": 1, "bottom": 2},
)


class Fractions(unittest.TestCase):
    def test_fractions(self):
        for thing in FRACTIONS:
            self.assertIs(asked(self, is_fraction, thing), True, repr(thing))

    def test_no_fractions(self):
        for thing in NEITHER + NO_FRACTIONS:
            self.assertIs(asked(self, is_fraction, thing), False, repr(thing)[:200])

    def test_truths_in_place_of_each_number(self):
        for top, bottom in FRACTIONS:
            for truth in TRUTHS:
                self.assertIs(is_fraction((truth, bottom)), False)
                self.assertIs(is_fraction((top, truth)), False)

    def test_all_small_ones(self):
        for top in range(-40, 41):
            for bottom in range(-3, 41):
                least = bottom >= 1 and math.gcd(top, bottom) == 1
                self.assertIs(is_fraction((top, bottom)), least, (top, bottom))

    def test_by_name(self):
        self.assertIs(asked(self, is_fraction, thing=(1, 2)), True)
        self.assertIs(asked(self, is_fraction, thing=(2, 4)), False)

    def test_least_terms_of_two_numbers(self):
        for top in range(-40, 41):
            for bottom in range(1, 41):
                divisor = math.gcd(top, bottom)
                same_kind(self, fraction_of(top, bottom), (top // divisor, bottom // divisor))


if __name__ == "__main__":
    unittest.main()

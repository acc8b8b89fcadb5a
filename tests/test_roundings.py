"""[21], with [2] to [5] as far as they speak of roundings."""

import unittest
from fractions import Fraction

from coinlaw.errors import NoCustom, NoNumber, NoStep
from coinlaw.fractions import is_fraction
from coinlaw.roundings import rounded
from helpers import CUSTOMS, NEITHER, THIRTY, asked, pair, refused, round_by_hand, same_kind

# (top, bottom), then what each custom tells, in the order of CUSTOMS.
TOLD = (
    ((0, 1), (0, 0, 0, 0, 0, 0)), ((0, 7), (0, 0, 0, 0, 0, 0)),
    ((3, 1), (3, 3, 3, 3, 3, 3)), ((-3, 1), (-3, -3, -3, -3, -3, -3)), ((6, 2), (3, 3, 3, 3, 3, 3)),
    ((-6, 2), (-3, -3, -3, -3, -3, -3)),
    ((1, 2), (0, 1, 0, 1, 0, 1)), ((-1, 2), (-1, 0, 0, -1, 0, -1)),
    ((3, 2), (1, 2, 1, 2, 2, 2)), ((-3, 2), (-2, -1, -1, -2, -2, -2)),
    ((5, 2), (2, 3, 2, 3, 2, 3)), ((-5, 2), (-3, -2, -2, -3, -2, -3)),
    ((7, 2), (3, 4, 3, 4, 4, 4)), ((-7, 2), (-4, -3, -3, -4, -4, -4)),
    ((10, 4), (2, 3, 2, 3, 2, 3)), ((-10, 4), (-3, -2, -2, -3, -2, -3)),
    ((249, 100), (2, 3, 2, 3, 2, 2)), ((251, 100), (2, 3, 2, 3, 3, 3)),
    ((-249, 100), (-3, -2, -2, -3, -2, -2)), ((-251, 100), (-3, -2, -2, -3, -3, -3)),
    ((1, 3), (0, 1, 0, 1, 0, 0)), ((2, 3), (0, 1, 0, 1, 1, 1)), ((-1, 3), (-1, 0, 0, -1, 0, 0)),
    ((-2, 3), (-1, 0, 0, -1, -1, -1)), ((1, THIRTY), (0, 1, 0, 1, 0, 0)), ((-1, THIRTY), (-1, 0, 0, -1, 0, 0)),
    ((THIRTY, 1), (THIRTY,) * 6), ((-THIRTY, 1), (-THIRTY,) * 6),
)

# (top, bottom, step), then what each custom tells.
STEPPED = (
    ((0, 3, 5), (0, 0, 0, 0, 0, 0)), ((12, 1, 5), (10, 15, 10, 15, 10, 10)), ((13, 1, 5), (10, 15, 10, 15, 15, 15)),
    ((-12, 1, 5), (-15, -10, -10, -15, -10, -10)), ((25, 2, 5), (10, 15, 10, 15, 10, 15)),
    ((35, 2, 5), (15, 20, 15, 20, 20, 20)), ((-25, 2, 5), (-15, -10, -10, -15, -10, -15)),
    ((15, 1, 5), (15,) * 6), ((50, 1, 100), (0, 100, 0, 100, 0, 100)), ((-50, 1, 100), (-100, 0, 0, -100, 0, -100)),
    ((150, 1, 100), (100, 200, 100, 200, 200, 200)), ((499, 10, 100), (0, 100, 0, 100, 0, 0)),
    ((501, 10, 100), (0, 100, 0, 100, 100, 100)), ((-200, 1, 100), (-200,) * 6),
)


class Roundings(unittest.TestCase):
    def check(self, top, bottom, custom, step, told):
        exact = Fraction(top, bottom)
        rest = exact - told
        same_kind(self, asked(self, rounded, top, bottom, custom, step=step), (told, pair(rest)))

    def test_each_custom(self):
        for (top, bottom), row in TOLD:
            for custom, told in zip(CUSTOMS, row):
                with self.subTest(top=top, bottom=bottom, custom=custom):
                    self.check(top, bottom, custom, 1, told)
                    same_kind(self, rounded(top, bottom, custom), rounded(top, bottom, custom, step=1))

    def test_each_custom_by_steps(self):
        for (top, bottom, step), row in STEPPED:
            for custom, told in zip(CUSTOMS, row):
                with self.subTest(top=top, bottom=bottom, step=step, custom=custom):
                    self.check(top, bottom, custom, step, told)

    def test_many_by_another_road(self):
        for custom in CUSTOMS:
            for step in (1, 2, 3, 5, 10, 99, 100):
                for bottom in (1, 2, 3, 4, 6, 10, 12, 100):
                    for top in list(range(-26, 27)) + [-1050, -1000, -550, 450, 550, 1001, 123456789, -987654321]:
                        told = round_by_hand(Fraction(top, bottom), custom, step)
                        self.check(top, bottom, custom, step, told)

    def test_great_numbers(self):
        for custom in CUSTOMS:
            for top in (THIRTY + 1, -THIRTY - 1, 10 ** 90 + 7, -(10 ** 90) - 7):
                for bottom in (2, 7, THIRTY - 1, 10 ** 60):
                    self.check(top, bottom, custom, 100, round_by_hand(Fraction(top, bottom), custom, 100))

    def test_told_and_rest_are_together_what_was_rounded(self):
        for custom in CUSTOMS:
            for step in (1, 5, 100):
                for top in range(-120, 121, 7):
                    for bottom in (1, 2, 4, 9, 30):
                        told, rest = rounded(top, bottom, custom, step=step)
                        self.assertTrue(is_fraction(rest))
                        self.assertEqual(told % step, 0)
                        self.assertEqual(told + Fraction(*rest), Fraction(top, bottom))

    def test_not_in_least_terms(self):
        for custom in CUSTOMS:
            for times in (2, 3, 50, THIRTY):
                same_kind(self, rounded(-5 * times, 2 * times, custom), rounded(-5, 2, custom))
                same_kind(self, rounded(7 * times, 3 * times, custom, step=5), rounded(7, 3, custom, step=5))

    def test_by_name(self):
        same_kind(self, asked(self, rounded, top=5, bottom=2, custom="far", step=1), (3, (-1, 2)))
        same_kind(self, asked(self, rounded, custom="far", bottom=2, top=5), (3, (-1, 2)))
        with self.assertRaises(TypeError):
            rounded(5, 2, "far", 1)


class Refusals(unittest.TestCase):
    def test_no_number_of_the_top(self):
        for thing in NEITHER + ("5", (5, 2), [5]):
            refused(self, NoNumber, rounded, thing, 2, "even")

    def test_no_number_of_the_bottom(self):
        for thing in NEITHER + (0, -1, -2, -THIRTY, "2", (5, 2), [2]):
            refused(self, NoNumber, rounded, 5, thing, "even")
        rounded(5, 1, "even")

    def test_no_custom(self):
        for thing in NEITHER + (0, 1, "Even", "EVEN", "even ", " even", "odd", "near", "evenfar", ["even"], ("even",),
                                {"even": 1}):
            refused(self, NoCustom, rounded, 5, 2, thing)

    def test_no_step(self):
        for thing in NEITHER + (0, -1, -100, 101, THIRTY, -THIRTY, "1", [1], (1,)):
            refused(self, NoStep, rounded, 5, 2, "even", step=thing)
        rounded(5, 2, "even", step=1)
        rounded(5, 2, "even", step=100)

    def test_the_one_further_to_the_left_first(self):
        refused(self, NoNumber, rounded, None, 0, "odd", step=0)
        refused(self, NoNumber, rounded, None, 2, "odd", step=1)
        refused(self, NoNumber, rounded, True, 2, "even", step=0)
        refused(self, NoNumber, rounded, 5, 0, "odd", step=0)
        refused(self, NoNumber, rounded, 5, True, "odd")
        refused(self, NoNumber, rounded, 5, 0, "even", step=0)
        refused(self, NoCustom, rounded, 5, 2, "odd", step=0)
        refused(self, NoCustom, rounded, step=101, custom=[], bottom=2, top=5)


if __name__ == "__main__":
    unittest.main()

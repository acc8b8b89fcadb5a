"""The interface, errors; [4]."""

import unittest

from coinlaw import errors

NO_THING = (
    "NoDay", "NoDate", "NoRules", "NoNumber", "NoCustom", "NoStep", "NoCoins", "NoWeights", "NoWay", "NoTable",
    "NoCode", "NoRoad", "NoBill", "NoPer", "NoBands", "NoGoal", "NoLoan", "NoAccount", "NoText", "NoRows", "NoBook",
    "NoPart", "NoDebts", "NoPerson", "NoMonths", "NoDays", "NoHouse", "NoPostings", "NoLine",
)
NOT_NOW = ("Open", "Early", "Short", "Over", "Nothing")
FAMILIES = (("NoThing", NO_THING), ("NotNow", NOT_NOW))


class Errors(unittest.TestCase):
    def test_the_root_stands_straight_under_value_error(self):
        self.assertEqual(errors.CoinError.__bases__, (ValueError,))

    def test_two_families_stand_straight_under_the_root(self):
        self.assertEqual(errors.NoThing.__bases__, (errors.CoinError,))
        self.assertEqual(errors.NotNow.__bases__, (errors.CoinError,))

    def test_each_class_stands_straight_under_its_own_family_alone(self):
        for family, names in FAMILIES:
            for name in names:
                with self.subTest(name):
                    self.assertEqual(getattr(errors, name).__bases__, (getattr(errors, family),))
                    self.assertEqual(getattr(errors, name).__name__, name)

    def test_no_class_of_one_family_is_of_the_other_one(self):
        for name in NO_THING:
            self.assertFalse(issubclass(getattr(errors, name), errors.NotNow), name)
        for name in NOT_NOW:
            self.assertFalse(issubclass(getattr(errors, name), errors.NoThing), name)

    def test_each_is_made_with_a_text(self):
        for name in ("CoinError", "NoThing", "NotNow") + NO_THING + NOT_NOW:
            with self.subTest(name):
                made = getattr(errors, name)("some words")
                self.assertEqual(str(made), "some words")
                with self.assertRaises(ValueError):
                    raise made


if __name__ == "__main__":
    unittest.main()

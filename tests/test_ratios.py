import random
import unittest
from fractions import Fraction

from evenpatch.errors import ByZero, InvalidNumber
from evenpatch.ratios import Ratio, as_ratio
from helpers import Case, fraction, strange


def no_numbers():
    return [value for value in strange() if type(value) is not int and type(value) is not Ratio]


class Ratios(Case):
    def test_lowest_terms(self):
        for top, bottom, told in ((6, 4, (3, 2)), (-6, 4, (-3, 2)), (6, -4, (-3, 2)), (-6, -4, (3, 2)), (0, -5, (0, 1)),
                                  (7, 7, (1, 1)), (10 ** 60, 10 ** 59, (10, 1))):
            ratio = Ratio(top, bottom)
            self.assertEqual((ratio.top, ratio.bottom), told)

    def test_bottom_left_out_and_names(self):
        self.assertEqual((Ratio(5).top, Ratio(5).bottom), (5, 1))
        self.assertEqual(Ratio(bottom=4, top=2), Ratio(1, 2))

    def test_wrong_arguments(self):
        for value in [*no_numbers(), Ratio(1)]:
            self.refused(InvalidNumber, [value], Ratio, value)
            self.refused(InvalidNumber, [value], Ratio, value, 0)
            self.refused(InvalidNumber, [value], Ratio, 1, value)
        self.refused(InvalidNumber, ["x"], Ratio, "x", "y")
        self.refused(ByZero, [], Ratio, 0, 0)
        self.refused(ByZero, [], Ratio, 3, bottom=0)

    def test_equal(self):
        self.assertTrue(Ratio(2, 4) == Ratio(1, 2))
        self.assertTrue(Ratio(4, 2) == 2)
        self.assertTrue(2 == Ratio(4, 2))
        self.assertFalse(Ratio(1, 2) == 0)
        self.assertFalse(Ratio(3, 2) == 3)
        self.assertFalse(3 == Ratio(3, 2))
        self.assertTrue(Ratio(1, 2) != Ratio(1, 3))
        self.assertFalse(Ratio(2) != 2)
        for value in no_numbers():
            for ratio in (Ratio(0), Ratio(1), Ratio(1, 2)):
                self.assertFalse(ratio == value)
                self.assertFalse(value == ratio)
        self.assertFalse(Ratio(1) == True)  # noqa: E712
        self.assertFalse(False == Ratio(0))  # noqa: E712

    def test_no_integer(self):
        self.assertNotIsInstance(Ratio(2), int)

    def test_string(self):
        for ratio, told in ((Ratio(-3, 2), "-3/2"), (Ratio(4, 2), "2"), (Ratio(0), "0"), (Ratio(-5), "-5"),
                            (Ratio(1, -3), "-1/3"), (Ratio(10 ** 60, 7), "1" + "0" * 60 + "/7")):
            self.assertEqual(str(ratio), told)

    def test_arithmetic(self):
        rng = random.Random(5)
        for _ in range(400):
            top = rng.choice([3, 20, 10 ** 60])
            one = Ratio(rng.randint(-top, top), rng.randint(1, top))
            other = rng.choice([rng.randint(-top, top), Ratio(rng.randint(-top, top), rng.choice([-1, 1]) * top)])
            x, y = fraction(one), fraction(other)
            for found, told in ((one + other, x + y), (other + one, x + y), (one - other, x - y), (other - one, y - x),
                                (one * other, x * y), (other * one, x * y), (-one, -x)):
                self.assert_is(found, told)
            self.assertIs(one.below(other), x < y)
            if y == 0:
                self.refused(ByZero, [], one.over, other)
            else:
                self.assert_is(one.over(other), x / y)

    def assert_is(self, found, told):
        self.assertIs(type(found), Ratio)
        self.assertEqual((found.top, found.bottom), (told.numerator, told.denominator))

    def test_nothing_changes(self):
        one, other = Ratio(1, 2), Ratio(1, 3)
        for call in (one.over, one.below):
            call(other)
        one + other, one - other, one * other, -one
        self.assertEqual([one.top, one.bottom, other.top, other.bottom], [1, 2, 1, 3])

    def test_over_and_below(self):
        self.assert_is(Ratio(1, 2).over(number=-2), Fraction(-1, 4))
        self.assertIs(Ratio(1, 2).below(number=Ratio(1, 2)), False)
        self.assertIs(Ratio(-1, 2).below(0), True)
        for value in no_numbers():
            self.refused(InvalidNumber, [value], Ratio(1).over, value)
            self.refused(InvalidNumber, [value], Ratio(0).below, value)
        self.refused(ByZero, [], Ratio(0).over, 0)
        self.refused(ByZero, [], Ratio(1).over, Ratio(0, 3))

    def test_as_ratio(self):
        self.assert_is(as_ratio(-7), Fraction(-7))
        self.assert_is(as_ratio(value=Ratio(2, 6)), Fraction(1, 3))
        for value in no_numbers():
            self.refused(InvalidNumber, [value], as_ratio, value)


if __name__ == "__main__":
    unittest.main()

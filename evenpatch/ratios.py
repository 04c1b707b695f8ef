"""Ratios: quotients of integers, and arithmetic with them."""

from math import gcd, lcm

from evenpatch.errors import ByZero, InvalidNumber
from evenpatch.kinds import is_whole


class Ratio:
    """The quotient of two integers, in lowest terms, with a bottom above 0."""

    def __init__(self, top, bottom=1):
        if not is_whole(top):
            raise InvalidNumber(top)
        if not is_whole(bottom):
            raise InvalidNumber(bottom)
        if bottom == 0:
            raise ByZero()
        common = gcd(top, bottom)
        if bottom < 0:
            common = -common
        self.top = top // common
        self.bottom = bottom // common

    def __eq__(self, other):
        if isinstance(other, Ratio):
            return self.top == other.top and self.bottom == other.bottom
        return is_whole(other) and self.bottom == 1 and self.top == other

    def __str__(self):
        if self.bottom == 1:
            return str(self.top)
        return f"{self.top}/{self.bottom}"

    def __add__(self, other):
        ratio = as_ratio(other)
        return Ratio(self.top * ratio.bottom + ratio.top * self.bottom, self.bottom * ratio.bottom)

    def __radd__(self, other):
        return self + other

    def __sub__(self, other):
        ratio = as_ratio(other)
        return Ratio(self.top * ratio.bottom - ratio.top * self.bottom, self.bottom * ratio.bottom)

    def __rsub__(self, other):
        return as_ratio(other) - self

    def __mul__(self, other):
        ratio = as_ratio(other)
        return Ratio(self.top * ratio.top, self.bottom * ratio.bottom)

    def __rmul__(self, other):
        return self * other

    def __neg__(self):
        return Ratio(-self.top, self.bottom)

    def over(self, number):
        """The Ratio divided by a number other than 0."""
        ratio = as_ratio(number)
        return Ratio(self.top * ratio.bottom, self.bottom * ratio.top)

    def below(self, number):
        """Whether the Ratio is less than a number."""
        ratio = as_ratio(number)
        return self.top * ratio.bottom < ratio.top * self.bottom


def as_ratio(value):
    """The Ratio that equals a number."""
    if isinstance(value, Ratio):
        return value
    return Ratio(value)


def is_number(value):
    """Whether any value is an integer or a Ratio."""
    return is_whole(value) or isinstance(value, Ratio)


def with_one_bottom(numbers):
    """A tuple of a list of integers and an integer above 0: the numbers are the former ones divided by the latter."""
    ratios = [as_ratio(number) for number in numbers]
    bottom = 1
    for ratio in ratios:
        bottom = lcm(bottom, ratio.bottom)
    return [ratio.top * (bottom // ratio.bottom) for ratio in ratios], bottom

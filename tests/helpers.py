"""What several tests need: any values, checks of errors, and shares counted by Python's own fractions."""

import unittest
from fractions import Fraction
from math import gcd

from evenpatch.errors import InvalidLot, NotFair, TooMany
from evenpatch.ratios import Ratio
from evenpatch.spaces import Space


def deep(levels):
    """A tuple nested so deep."""
    value = ()
    for _ in range(levels - 1):
        value = (value,)
    return value


def strange():
    """Values of many kinds, new ones each time; none of them is what any function asks for, but where told."""
    return [None, True, False, -1, 10 ** 3999, "", "x" * 4000, "\n\t ~", (), [], {}, {"x": 1}, [[]], ((),), (None,),
            ["x", 1], ("x", 1.5 > 1), Ratio(1, 2), Ratio(-7), Space([("x", 2)]), InvalidLot(3), NotFair(1, 2, 3),
            TooMany([1]), deep(90), [deep(89)], {"": deep(89)}, (1,) * 5000, ("a", ("b", ("c", ["d"])))]


def fraction(number):
    """A number as one of Python's own."""
    if isinstance(number, Ratio):
        return Fraction(number.top, number.bottom)
    return Fraction(number)


def shares_of(lot):
    whole = sum(lot)
    return [Fraction(part, whole) for part in lot]


def mixture(lots, shares):
    """The shares of the outcomes in the mixture of lots by shares."""
    total = [Fraction(0)] * len(lots[0])
    for lot, share in zip(lots, shares):
        total = [one + fraction(share) * part for one, part in zip(total, shares_of(lot))]
    return total


def mean_of(lot, payoff):
    return sum(part * fraction(item) for part, item in zip(shares_of(lot), payoff))


def distance_of(one, other):
    return sum(max(Fraction(0), x - y) for x, y in zip(one, other))


def lot_from(parts):
    """The lot whose integers are to each other as these."""
    common = 0
    for part in parts:
        common = gcd(common, part)
    return tuple(part // common for part in parts)


def some_lot(rng, many, top, thin=0.3):
    """A lot with integers from 0 to top."""
    while True:
        parts = [0 if rng.random() < thin else rng.randint(0, top) for _ in range(many)]
        if any(parts):
            return lot_from(parts)


def some_lots(rng, many, top, count):
    """Lots, now and then with equal ones and with mixtures of others among them."""
    lots = [some_lot(rng, many, top) for _ in range(count)]
    for at in range(count):
        if at > 0 and rng.random() < 0.15:
            lots[at] = lots[rng.randrange(at)]
        elif at > 1 and rng.random() < 0.2:
            one, other = lots[rng.randrange(at)], lots[rng.randrange(at)]
            by, other_by = rng.randint(1, 9), rng.randint(1, 9)
            lots[at] = lot_from([by * x + other_by * y for x, y in zip(one, other)])
    return lots


def flat_lots(rng, many, top, count):
    """Lots on a line or in a plane: mixtures of two or three of them."""
    base = [some_lot(rng, many, top) for _ in range(rng.randint(1, 3))]
    found = []
    for _ in range(count):
        weights = [rng.randint(0, 4) for _ in base]
        weights[rng.randrange(len(base))] += 1
        found.append(lot_from([sum(w * lot[k] for w, lot in zip(weights, base)) for k in range(many)]))
    return found


def many_lists(rng, count):
    """Many lists of lots of all kinds, each with the number of its outcomes."""
    found = []
    for at in range(count):
        many = rng.randint(3, 7)
        top = rng.choice([1, 2, 3, 10, 10 ** 20, 10 ** 59])
        size = rng.choice([1, 2, 3, 5, 8, 13, 20])
        kind = rng.choice([some_lots, some_lots, flat_lots])
        found.append((many, kind(rng, many, top, size)))
    return found


class Case(unittest.TestCase):
    """Tests with checks of errors and of numbers."""

    def refused(self, error, told, call, *args, **more):
        """Asks for an error with just these attributes, in order; a value that is given is to be the very one."""
        with self.assertRaises(error) as caught:
            call(*args, **more)
        self.assertIs(type(caught.exception), error)
        found = list(vars(caught.exception).values())
        self.assertEqual(found, list(told))
        if error.__name__.startswith("Invalid"):
            self.assertIs(found[0], told[0])

    def assert_ratios(self, numbers):
        """Asks for a list of Ratios, and gives them as Python's own fractions."""
        self.assertIs(type(numbers), list)
        for number in numbers:
            self.assertIs(type(number), Ratio)
        return [fraction(number) for number in numbers]

    def assert_shares(self, numbers, many):
        found = self.assert_ratios(numbers)
        self.assertEqual(len(found), many)
        self.assertGreaterEqual(min(found), 0)
        self.assertEqual(sum(found), 1)
        return found

    def assert_payoff(self, payoff, many):
        self.assertIs(type(payoff), list)
        self.assertEqual(len(payoff), many)
        for item in payoff:
            self.assertIs(type(item), int)

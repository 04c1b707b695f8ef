import copy
import random
import unittest
from fractions import Fraction

from evenpatch.errors import InvalidBlend, InvalidLot, InvalidLots, InvalidNumber, InvalidPayoff
from evenpatch.hulls import corners
from evenpatch.lots import is_lot, mean, mixed, sure
from evenpatch.ratios import Ratio
from helpers import Case, fraction, lot_from, mean_of, mixture, shares_of, some_lots, strange


def no_many():
    return [value for value in strange() if type(value) is not int] + [2, 8, -3, 0, Ratio(3)]


class Lots(Case):
    def test_is_lot(self):
        for value in ((1, 0, 0), (0, 0, 1), (2, 3, 4), (10 ** 3999, 1, 0), (6, 10, 15)):
            self.assertIs(is_lot(3, value), True)
        for value in ((0, 0, 0), (2, 0, 4), (2, 0, 0), (1, 0), (1, 0, 0, 0), (-1, 1, 1), (True, 0, 0), (1, False, 0),
                      [1, 0, 0], (Ratio(1), 0, 0), ("1", 0, 0), (1, None, 0), ((1,), 0, 0)):
            self.assertIs(is_lot(3, value), False)
        self.assertIs(is_lot(many=7, value=(1,) * 7), True)
        for value in strange():
            self.assertIs(is_lot(3, value), False)

    def test_is_lot_asks_many(self):
        for many in no_many():
            self.refused(InvalidNumber, [many], is_lot, many, (1, 0, 0))

    def test_sure(self):
        self.assertEqual([sure(3, 0), sure(many=7, outcome=6)], [(1, 0, 0), (0, 0, 0, 0, 0, 0, 1)])
        for many in range(3, 8):
            for outcome in range(many):
                lot = sure(many, outcome)
                self.assertTrue(is_lot(many, lot))
                self.assertEqual(shares_of(lot)[outcome], 1)
                self.assertEqual([type(item) for item in lot], [int] * many)

    def test_sure_refuses(self):
        for many in no_many():
            self.refused(InvalidNumber, [many], sure, many, "x")
        for outcome in (-1, 3, True, False, None, Ratio(1), "1"):
            self.refused(InvalidNumber, [outcome], sure, 3, outcome)

    def test_mean(self):
        found = mean((1, 0, 2), [6, 1, -1])
        self.assertIs(type(found), Ratio)
        self.assertEqual(found, Ratio(4, 3))
        self.assertEqual(mean(lot=(1, 1, 0), payoff=(Ratio(1, 2), Ratio(-1, 3), 9)), Ratio(1, 12))
        rng = random.Random(3)
        for _ in range(100):
            many = rng.randint(3, 7)
            lot = some_lots(rng, many, 10 ** 59, 1)[0]
            payoff = [rng.choice([rng.randint(-9, 9), Ratio(rng.randint(-10 ** 59, 10 ** 59), 10 ** 58 + 7)])
                      for _ in range(many)]
            self.assertEqual(fraction(mean(lot, payoff)), mean_of(lot, payoff))

    def test_mean_refuses(self):
        for lot in [*strange(), (2, 0, 0), (1, 0), (1,) * 8, [1, 0, 0], (0, 0, 0)]:
            self.refused(InvalidLot, [lot], mean, lot, "x")
        for payoff in [*strange(), [1, 2], [1, 2, 3, 4], [1, True, 3], [1, "2", 3], {"a": 1, "b": 2, "c": 3}]:
            self.refused(InvalidPayoff, [payoff], mean, (1, 0, 0), payoff)

    def test_mixed(self):
        self.assertEqual(mixed([(1, 0, 0), (0, 1, 1)], [1, 2]), (1, 1, 1))
        self.assertEqual(mixed(lots=((1, 0, 0), (0, 1, 1)), weights=(Ratio(1, 2), Ratio(1, 3))), (3, 1, 1))
        self.assertEqual(mixed([(1, 0, 0)] * 3, [0, 0, Ratio(1, 7)]), (1, 0, 0))
        rng = random.Random(4)
        for _ in range(150):
            many, top = rng.randint(3, 7), rng.choice([2, 10, 10 ** 59])
            lots = some_lots(rng, many, top, rng.choice([1, 2, 5, 64]))
            weights = [rng.choice([0, rng.randint(0, top), Ratio(rng.randint(0, top), rng.randint(1, top))])
                       for _ in lots]
            weights[-1] = Ratio(1, 10 ** 59)
            whole = sum(fraction(weight) for weight in weights)
            found = mixed(lots, weights)
            self.assertTrue(is_lot(many, found))
            self.assertEqual(shares_of(found), mixture(lots, [fraction(weight) / whole for weight in weights]))

    def test_mixed_refuses(self):
        lots = [(1, 0, 0), (0, 1, 0)]
        for weights in [*strange(), [1], [1, 1, 1], [0, 0], [1, -1], [1, True], [Ratio(-1, 2), 1], [1, None],
                        {"x": 1, "y": 1}, [Ratio(0), 0]]:
            self.refused(InvalidBlend, [weights], mixed, lots, weights)
        self.refused(InvalidLots, ["x"], mixed, "x", "y")

    def test_wrong_lots(self):
        for lots in [*strange(), [(1, 0)], [(1,) * 8], [(1, 0, 0), (1, 0, 0, 0)], [[1, 0, 0]], [(2, 0, 0)],
                     [(0, 0, 0)], [(1, 0, True)], [(1, 0, 0)] * 65, {"x": (1, 0, 0)}, [(1, 0, 0), None], (1, 0, 0)]:
            self.refused(InvalidLots, [lots], corners, lots)
            self.refused(InvalidLots, [lots], mixed, lots, None)
        self.assertEqual(corners([(1, 0, 0)] * 64), [(1, 0, 0)])

    def test_nothing_is_changed_or_kept(self):
        lots, weights = [(1, 0, 0), (0, 1, 1)], [1, Ratio(1, 2)]
        before = copy.copy(lots), copy.copy(weights)
        mixed(lots, weights)
        mean((1, 0, 2), weights + [3])
        self.assertEqual((lots, weights), before)

    def test_from_parts(self):
        self.assertEqual(lot_from([4, 0, 6]), (2, 0, 3))
        self.assertEqual(shares_of((2, 0, 3)), [Fraction(2, 5), 0, Fraction(3, 5)])


if __name__ == "__main__":
    unittest.main()

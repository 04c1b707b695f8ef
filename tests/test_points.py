import copy
import random
import unittest

from evenpatch.errors import InvalidLot, InvalidLots
from evenpatch.lots import mixed, sure
from evenpatch.points import is_nearest_point, nearest_point
from evenpatch.ratios import Ratio
from evenpatch.squares import nearest_shares
from helpers import Case, many_lists, mixture, shares_of, some_lot, some_lots, strange

HALF = Ratio(1, 2)


def is_nearest(lots, lot, point):
    """What the document says of the nearest point, counted by Python's own fractions."""
    aim = shares_of(lot)
    return all(sum((m - p) * (z - p) for m, p, z in zip(aim, point, shares_of(one))) <= 0 for one in lots)


class Points(Case):
    def check(self, lots, lot):
        found = nearest_point(lots, lot)
        point = mixture(lots, self.assert_shares(found, len(lots)))
        self.assertTrue(is_nearest(lots, lot, point))
        self.assertIs(is_nearest_point(lots, lot, found), True)
        return point

    def test_many_lists(self):
        rng = random.Random(31)
        for many, lots in many_lists(rng, 250):
            self.check(lots, some_lot(rng, many, rng.choice([1, 3, 10 ** 59])))

    def test_lots_of_the_polygon_are_nearest_to_themselves(self):
        rng = random.Random(32)
        for many, lots in many_lists(rng, 120):
            inner = mixed(lots, [rng.randint(0, 4) for _ in lots[1:]] + [1])
            self.assertEqual(self.check(lots, inner), shares_of(inner))

    def test_by_hand(self):
        self.assertEqual(nearest_point([(1, 0, 0), (0, 1, 0)], (1, 2, 3)), [Ratio(5, 12), Ratio(7, 12)])
        self.assertEqual(nearest_point(lots=((1, 2, 3),), lot=(1, 0, 0)), [1])
        self.assertEqual(nearest_point([(1, 0, 0), (1, 1, 0)], (0, 0, 1)), [0, 1])
        self.assertEqual(self.check([(1, 0, 0)] * 4, (0, 1, 1)), [1, 0, 0])
        self.assertEqual(self.check([sure(7, at) for at in range(6)], sure(7, 6)), shares_of((1,) * 6 + (0,)))

    def test_order_means_nothing_for_the_point(self):
        rng = random.Random(33)
        for many, lots in many_lists(rng, 60):
            lot = some_lot(rng, many, 9)
            other = lots + lots[:2]
            rng.shuffle(other)
            self.assertEqual(self.check(lots, lot), self.check(other, lot))

    def test_longest_lists(self):
        rng = random.Random(34)
        for many in (3, 5, 7):
            for top in (3, 10 ** 59):
                lots = some_lots(rng, many, top, 64)
                for at in range(many):
                    self.check(lots, sure(many, at))
                self.check(lots, some_lot(rng, many, top))

    def test_longer_lists_for_later_stages(self):
        rng = random.Random(35)
        lots = some_lots(rng, 6, 50, 250)
        for at in range(6):
            point = mixture(lots, nearest_shares(lots, sure(6, at)))
            self.assertTrue(is_nearest(lots, sure(6, at), point))

    def test_is_nearest_point(self):
        lots, lot = [(1, 0, 0), (0, 1, 0)], (1, 1, 1)
        for value in ([HALF, HALF], (HALF, HALF)):
            self.assertIs(is_nearest_point(lots=lots, lot=lot, value=value), True)
        for value in [*strange(), [1, 0], [0, 1], [1], [HALF, HALF, 0], [1, 1], [HALF, True], [HALF, "x"], (HALF,),
                      [Ratio(3, 2), Ratio(-1, 2)], {0: HALF, 1: HALF}, [Ratio(1, 3), Ratio(2, 3)], [[HALF], [HALF]],
                      [Ratio(10 ** 3998, 2 * 10 ** 3998 + 1), Ratio(10 ** 3998 + 1, 2 * 10 ** 3998 + 1)]]:
            self.assertIs(is_nearest_point(lots, lot, value), False)
        self.assertIs(is_nearest_point([(1, 0, 0)] * 2, lot, [Ratio(1, 3), Ratio(2, 3)]), True)
        self.assertIs(is_nearest_point([(1, 0, 0), (1, 1, 0)], (0, 0, 1), [0, 1]), True)
        self.assertIs(is_nearest_point([(1, 0, 0), (1, 1, 0)], (0, 0, 1), [1, 0]), False)

    def test_near_misses(self):
        rng = random.Random(36)
        for many, lots in many_lists(rng, 80):
            lot = some_lot(rng, many, 9)
            right = mixture(lots, nearest_point(lots, lot))
            for _ in range(4):
                weights = [rng.randint(0, 3) for _ in lots[1:]] + [1]
                value = [Ratio(weight, sum(weights)) for weight in weights]
                self.assertIs(is_nearest_point(lots, lot, value), mixture(lots, value) == right)

    def test_wrong_arguments(self):
        lots = [(1, 0, 0), (0, 1, 0)]
        for call in (nearest_point, lambda a, b: is_nearest_point(a, b, None)):
            for value in [*strange(), lots * 33, [(1, 0)], [(2, 0, 0)], [[1, 0, 0]]]:
                self.refused(InvalidLots, [value], call, value, "x")
            for value in [*strange(), (1, 0), (1, 0, 0, 0), (2, 0, 0), [1, 0, 0], (0, 0, 0), (1, 0, False)]:
                self.refused(InvalidLot, [value], call, lots, value)

    def test_nothing_is_changed_and_answers_are_equal(self):
        lots = [(3, 1, 0), (1, 3, 0), (0, 0, 1)]
        before = copy.copy(lots)
        first = nearest_point(lots, (1, 1, 5))
        self.assertEqual(first, nearest_point(tuple(lots), (1, 1, 5)))
        self.assertIsNot(first, nearest_point(lots, (1, 1, 5)))
        self.assertEqual(lots, before)


if __name__ == "__main__":
    unittest.main()

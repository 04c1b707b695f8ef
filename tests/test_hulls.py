import copy
import random
import unittest

from evenpatch.cones import corners_of
from evenpatch.errors import InvalidLot, InvalidLots, Outside
from evenpatch.hulls import corners, shares_in
from evenpatch.lots import mixed, sure
from evenpatch.ratios import Ratio
from helpers import Case, lot_from, many_lists, mean_of, mixture, shares_of, some_lot, some_lots, strange


def pairs_on_a_line(lots):
    """The corners of lots on two outcomes of three: the least and the greatest."""
    ordered = sorted(set(lots), key=lambda lot: shares_of(lot)[0])
    return sorted({ordered[0], ordered[-1]})


class Hulls(Case):
    def check_shares(self, lots, lot):
        """Judges what comes; tells whether there are shares."""
        try:
            shares = shares_in(lots, lot)
        except Outside as error:
            self.assert_payoff(error.payoff, len(lot))
            self.assertEqual(list(vars(error)), ["payoff"])
            for other in lots:
                self.assertGreater(mean_of(lot, error.payoff), mean_of(other, error.payoff))
            return False
        found = self.assert_shares(shares, len(lots))
        self.assertEqual(mixture(lots, found), shares_of(lot))
        return True

    def test_shares_in_many_lists(self):
        rng = random.Random(11)
        told = {True: 0, False: 0}
        for many, lots in many_lists(rng, 250):
            inner = mixed(lots, [rng.randint(0, 5) for _ in lots[1:]] + [1])
            self.assertTrue(self.check_shares(lots, inner))
            self.assertTrue(self.check_shares(lots, rng.choice(lots)))
            told[self.check_shares(lots, some_lot(rng, many, 10))] += 1
        self.assertGreater(min(told.values()), 10)

    def test_shares_by_hand(self):
        self.assertEqual(shares_in([(1, 0, 0), (0, 1, 1)], (1, 1, 1)), [Ratio(1, 3), Ratio(2, 3)])
        self.assertEqual(shares_in(lots=((0, 1, 2),), lot=(0, 1, 2)), [1])
        self.assertFalse(self.check_shares([(1, 0, 0)], (0, 1, 0)))
        self.assertFalse(self.check_shares([(10 ** 59, 1, 0), (0, 1, 0)], (10 ** 59 + 1, 1, 0)))
        self.assertTrue(self.check_shares([(10 ** 59 + 2, 1, 0), (0, 1, 0)], (10 ** 59 + 1, 1, 0)))

    def test_shares_refuse(self):
        lots = [(1, 0, 0), (0, 1, 0)]
        for value in [*strange(), (1, 0), (1, 0, 0, 0), [1, 0, 0], (2, 0, 0), (0, 0, 0)]:
            self.refused(InvalidLot, [value], shares_in, lots, value)
        for value in [*strange(), lots * 33]:
            self.refused(InvalidLots, [value], shares_in, value, "x")

    def test_corners_by_hand(self):
        self.assertEqual(corners([(1, 1, 0), (0, 1, 0), (1, 0, 0), (0, 1, 0)]), [(0, 1, 0), (1, 0, 0)])
        self.assertEqual(corners(lots=((2, 1, 0),)), [(2, 1, 0)])
        self.assertEqual(corners([(2, 1, 0)] * 5), [(2, 1, 0)])
        wheels = [sure(7, at) for at in range(7)]
        self.assertEqual(corners([(1,) * 7, *wheels, (1, 2, 3, 4, 5, 6, 7)]), sorted(wheels))
        # A square in a plane, with its middle and with the middle of one edge.
        square = [(2, 0, 1, 1), (0, 2, 1, 1), (1, 1, 2, 0), (1, 1, 0, 2)]
        self.assertEqual(corners([(1, 1, 1, 1), *square, (3, 1, 3, 1)]), sorted(square))

    def test_corners_on_a_line(self):
        rng = random.Random(12)
        for _ in range(60):
            lots = [lot_from([rng.randint(0, 9), rng.randint(1, 10 ** 59), 0]) for _ in range(rng.randint(1, 64))]
            self.assertEqual(corners(lots), pairs_on_a_line(lots))

    def test_corners_are_just_the_needed_ones(self):
        rng = random.Random(13)
        for many, lots in many_lists(rng, 60):
            found = corners(lots)
            self.assertEqual(found, sorted(set(found)))
            self.assertLessEqual(set(found), set(lots))
            for lot in set(lots):
                self.assertTrue(self.check_shares(found, lot))
                others = [other for other in set(lots) if other != lot]
                if others:
                    self.assertEqual(lot in found, not self.check_shares(others, lot))

    def test_order_means_nothing(self):
        rng = random.Random(14)
        for many, lots in many_lists(rng, 60):
            other = lots + lots[:3]
            rng.shuffle(other)
            self.assertEqual(corners(other), corners(lots))

    def test_longest_lists(self):
        rng = random.Random(15)
        for top in (3, 10 ** 59):
            lots = some_lots(rng, 7, top, 64)
            found = corners(lots)
            for lot in lots:
                self.assertTrue(self.check_shares(found, lot))
            self.check_shares(lots, some_lot(rng, 7, top))

    def test_longer_lists_for_later_stages(self):
        rng = random.Random(16)
        lots = some_lots(rng, 4, 5, 200)
        self.assertEqual(corners_of(lots), corners_of(corners_of(lots[:100]) + corners_of(lots[100:])))

    def test_nothing_is_changed_or_kept(self):
        lots = [(1, 1, 0), (0, 1, 0), (1, 0, 0), (0, 1, 0)]
        before = copy.copy(lots)
        found = corners(lots)
        shares = shares_in(lots, (1, 1, 0))
        found.append(None)
        shares.append(None)
        self.assertEqual(lots, before)
        self.assertEqual(corners(lots), [(0, 1, 0), (1, 0, 0)])
        self.assertEqual(shares_in(lots, (1, 1, 0)), shares[:-1])
        self.assertEqual(shares_in(tuple(lots), (1, 1, 0)), shares[:-1])


if __name__ == "__main__":
    unittest.main()

import copy
import random
import unittest
from fractions import Fraction

from evenpatch.cones import gap, meeting
from evenpatch.errors import Apart, InvalidLots
from evenpatch.lots import mixed, sure
from evenpatch.nearest import common, distance, is_common, is_distance
from evenpatch.ratios import Ratio
from helpers import (Case, distance_of, flat_lots, fraction, lot_from, many_lists, mean_of, mixture, shares_of,
                     some_lot, some_lots, strange)

HALF = Ratio(1, 2)


def some_pairs(rng, count):
    """Pairs of lists of lots on equally many outcomes, with and without common lots."""
    found = []
    for many, lots in many_lists(rng, count):
        top = rng.choice([1, 3, 10, 10 ** 59])
        size = rng.choice([1, 2, 4, 9])
        others = rng.choice([some_lots, flat_lots])(rng, many, top, size)
        if rng.random() < 0.3:
            others.append(mixed(lots, [rng.randint(0, 3) for _ in lots[1:]] + [1]))
        if rng.random() < 0.1:
            others = list(reversed(lots))
        found.append((many, lots, others))
    return found


class Common(Case):
    def check(self, lots, others):
        """Judges what comes; tells whether there is a common lot."""
        try:
            found = common(lots, others)
        except Apart as error:
            self.assert_payoff(error.payoff, len(lots[0]))
            self.assertEqual(list(vars(error)), ["payoff"])
            self.assertGreater(min(mean_of(lot, error.payoff) for lot in lots),
                               max(mean_of(lot, error.payoff) for lot in others))
            return False
        self.assertIs(type(found), tuple)
        self.assertEqual(len(found), 2)
        shares = self.assert_shares(found[0], len(lots))
        other_shares = self.assert_shares(found[1], len(others))
        self.assertEqual(mixture(lots, shares), mixture(others, other_shares))
        self.assertIsNot(found[0], found[1])
        self.assertIs(is_common(lots, others, found), True)
        return True

    def test_many_lists(self):
        told = {True: 0, False: 0}
        for many, lots, others in some_pairs(random.Random(21), 300):
            answer = self.check(lots, others)
            self.assertEqual(self.check(others, lots), answer)
            self.assertEqual(distance(lots, others)[0] == 0, answer)
            told[answer] += 1
        self.assertGreater(min(told.values()), 40)

    def test_by_hand(self):
        self.assertEqual(common([(1, 0, 0), (0, 1, 0)], [(1, 3, 0)]), ([Ratio(1, 4), Ratio(3, 4)], [1]))
        self.assertEqual(common(lots=((1, 2, 0),), others=((1, 2, 0),)), ([1], [1]))
        self.assertFalse(self.check([(1, 0, 0)], [(0, 1, 0)]))
        self.assertFalse(self.check([(10 ** 59, 1, 0)], [(10 ** 59 + 1, 1, 0)]))
        # Two lines that cross, and two that would do so beyond their ends.
        self.assertTrue(self.check([(1, 0, 0, 1), (0, 1, 1, 0)], [(1, 0, 1, 0), (0, 1, 0, 1)]))
        self.assertFalse(self.check([(1, 0, 0, 1), (2, 1, 1, 2)], [(1, 0, 1, 0), (0, 1, 0, 1)]))

    def test_is_common(self):
        lots, others = [(1, 0, 0), (0, 1, 0)], [(1, 1, 0)]
        for value in (([HALF, HALF], [1]), ((HALF, HALF), (Ratio(1),)), ([HALF, HALF], (1,))):
            self.assertIs(is_common(lots, others, value), True)
            self.assertIs(is_common(lots=lots, others=others, value=value), True)
        for value in [*strange(), [[HALF, HALF], [1]], ([HALF, HALF],), ([HALF, HALF], [1], [1]), ([1, 0], [1]),
                      ([HALF, HALF], [True]), ([HALF, HALF], [0]), ([1, 1], [2]), ([HALF, HALF], []),
                      ([HALF, HALF, 0], [1]), ([Ratio(3, 2), Ratio(-1, 2)], [1]), ({0: HALF, 1: HALF}, [1]),
                      ([Ratio(1, 3), Ratio(2, 3)], [1]), (None, [1]), ([HALF, "1/2"], [1]), ([[HALF], HALF], [1])]:
            self.assertIs(is_common(lots, others, value), False)

    def test_is_common_with_long_integers(self):
        long = 10 ** 3999
        lots, others = [(1, 0, 0), (0, 1, 0)] * 16, [(1, 1, 0)]
        shares = [Ratio(1, long + at) for at in range(31)]
        rest = 1 - sum(shares)
        self.assertIs(is_common(lots, others, ([*shares, rest], [1])), False)
        pair = [Ratio(long, 2 * long + 1), Ratio(long + 1, 2 * long + 1)]
        self.assertIs(is_common(lots[:2], [(1, 0, 0), (0, 1, 0)], (pair, pair)), True)
        self.assertIs(is_common(lots[:2], others, (pair, [1])), False)

    def test_wrong_lots(self):
        lots = [(1, 0, 0), (0, 1, 0)]
        for call in (common, distance, lambda a, b: is_common(a, b, None), lambda a, b: is_distance(a, b, None)):
            for value in [*strange(), lots * 33, [(1, 0)], [(2, 0, 0)], [[1, 0, 0]]]:
                self.refused(InvalidLots, [value], call, value, "x")
                self.refused(InvalidLots, [value], call, lots, value)
            for value in ([(1, 0, 0, 0)], [(1, 0, 0), (1, 0, 0, 0)], {"x": (1, 0, 0)}, (1, 0, 0)):
                self.refused(InvalidLots, [value], call, lots, value)


class Distances(Case):
    def check(self, lots, others):
        """Judges what comes by what the document says, and gives the number."""
        found = distance(lots, others)
        self.assertIs(type(found), tuple)
        number, shares, other_shares, payoff = found
        self.assertIs(type(number), Ratio)
        one = mixture(lots, self.assert_shares(shares, len(lots)))
        other = mixture(others, self.assert_shares(other_shares, len(others)))
        self.assertEqual(distance_of(one, other), fraction(number))
        self.assertIsNot(shares, other_shares)
        self.assert_payoff(payoff, len(lots[0]))
        self.assertGreaterEqual(min(payoff), 0)
        self.assertGreater(max(payoff), 0)
        low = min(mean_of(lot, payoff) for lot in lots)
        high = max(mean_of(lot, payoff) for lot in others)
        self.assertEqual(low - high, fraction(number) * max(payoff))
        self.assertIs(is_distance(lots, others, found), True)
        return fraction(number)

    def test_many_lists(self):
        above = 0
        for many, lots, others in some_pairs(random.Random(22), 300):
            number = self.check(lots, others)
            self.assertEqual(self.check(others, lots), number)
            self.assertTrue(0 <= number <= 1)
            above += number > 0
        self.assertGreater(above, 80)

    def test_no_payoff_and_no_mixtures_tell_otherwise(self):
        rng = random.Random(23)
        for many, lots, others in some_pairs(rng, 40):
            number = fraction(distance(lots, others)[0])
            for _ in range(20):
                payoff = [rng.randint(0, 4) for _ in range(many)]
                low = min(mean_of(lot, payoff) for lot in lots)
                high = max(mean_of(lot, payoff) for lot in others)
                self.assertLessEqual(low - high, number * max(payoff))
                one = shares_of(mixed(lots, [rng.randint(0, 3) for _ in lots[1:]] + [1]))
                other = shares_of(mixed(others, [rng.randint(0, 3) for _ in others[1:]] + [1]))
                self.assertGreaterEqual(distance_of(one, other), number)

    def test_by_hand(self):
        self.assertEqual(self.check([(3, 1, 0)], [(1, 1, 0)]), Fraction(1, 4))
        self.assertEqual(self.check([sure(7, 0)], [sure(7, 6)]), 1)
        self.assertEqual(self.check([sure(7, 0), sure(7, 1)], [sure(7, 5), sure(7, 6)]), 1)
        self.assertEqual(self.check([(1, 2, 0)], [(1, 2, 0)]), 0)
        self.assertEqual(self.check([(1, 0, 0), (0, 1, 0)], [(1, 1, 2)]), Fraction(1, 2))
        self.assertEqual(self.check([(1, 0, 0)], [(10 ** 59, 1, 0)]), Fraction(1, 10 ** 59 + 1))
        self.assertEqual(distance(lots=((3, 1, 0),), others=((1, 1, 0),))[0], Ratio(1, 4))

    def test_longest_lists(self):
        rng = random.Random(24)
        for top in (3, 10 ** 59):
            lots = [some_lot(rng, 7, top) for _ in range(64)]
            others = [some_lot(rng, 7, top) for _ in range(64)]
            self.check(lots, others)
            # Lots that all have little of the first outcome, and others that have most of it.
            low = [lot_from([1, *[5 + item for item in lot[1:]]]) for lot in lots]
            high = [lot_from([7 * sum(lot) + 1, *lot[1:]]) for lot in others]
            self.assertGreater(self.check(low, high), 0)

    def test_longer_lists_for_later_stages(self):
        rng = random.Random(25)
        lots, others = some_lots(rng, 5, 9, 150), some_lots(rng, 5, 9, 150)
        number, shares, other_shares, payoff = gap(lots, others)
        self.assertEqual(distance_of(mixture(lots, shares), mixture(others, other_shares)), fraction(number))
        self.assertEqual(meeting(lots, others)[2] is None, number == 0)

    def test_is_distance(self):
        lots, others = [(3, 1, 0)], [(1, 1, 0)]
        number = Ratio(1, 4)
        for payoff, told in (([5, 0, 0], True), ((1, 0, 0), True), ([5, 1, 0], False), ([0, 0, 0], False),
                             ([4, 0, -1], False), ([10 ** 3999, 0, 10 ** 3999], True), ([5, 0], False),
                             ([5, 0, 0, 0], False), ([Ratio(5), 0, 0], False), ([True, False, 0], False),
                             ([True, 0, 0], False), ({0: 5, 1: 0, 2: 0}, False), ([0, 5, 0], False), (None, False)):
            self.assertIs(is_distance(lots, others, (number, [1], [1], payoff)), told, payoff)
        for value in [*strange(), [number, [1], [1], [5, 0, 0]], (number, [1], [1]), (number, [1], [1], [5, 0, 0], 0),
                      (number, [True], [1], [5, 0, 0]), (number, [1], [2], [5, 0, 0]), (number, [1], 1, [5, 0, 0]),
                      (number, [1, 0], [1], [5, 0, 0]), (Ratio(1, 3), [1], [1], [5, 0, 0]), (0, [1], [1], [1, 1, 1]),
                      (None, [1], [1], [5, 0, 0]), (False, [1], [1], [5, 0, 0]), ("1/4", [1], [1], [5, 0, 0])]:
            self.assertIs(is_distance(lots, others, value), False)
        self.assertIs(is_distance(lots=lots, others=others, value=(number, (1,), (Ratio(1),), (1, 0, 0))), True)
        same = [(1, 1, 0)]
        self.assertIs(is_distance(same, others, (0, [1], [1], [1, 1, 1])), True)
        self.assertIs(is_distance(same, others, (Ratio(0), [1], [1], [0, 0, 7])), True)
        self.assertIs(is_distance(same, others, (False, [1], [1], [1, 1, 1])), False)
        sure_one, sure_other = [(1, 0, 0)], [(0, 1, 0)]
        self.assertIs(is_distance(sure_one, sure_other, (1, [1], [1], [1, 0, 0])), True)
        self.assertIs(is_distance(sure_one, sure_other, (True, [1], [1], [1, 0, 0])), False)

    def test_is_distance_asks_for_the_least(self):
        lots, others = [(1, 0, 0), (0, 1, 0)], [(0, 1, 0)]
        self.assertIs(is_distance(lots, others, (0, [0, 1], [1], [1, 1, 1])), True)
        for payoff in ([1, 0, 0], [1, 1, 1], [0, 0, 1]):
            self.assertIs(is_distance(lots, others, (1, [1, 0], [1], payoff)), False)

    def test_nothing_is_changed_and_answers_are_equal(self):
        lots, others = [(3, 1, 0), (1, 3, 0)], [(0, 1, 1)]
        before = copy.copy(lots), copy.copy(others)
        for call in (distance, gap):
            first = call(lots, others)
            second = call(tuple(lots), tuple(others))
            self.assertEqual(first, second)
            for at in (1, 2, 3):
                self.assertIsNot(first[at], second[at])
        self.assertEqual((lots, others), before)


if __name__ == "__main__":
    unittest.main()

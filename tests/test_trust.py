"""Tests of evenpatch.trust."""

import random
import unittest
from fractions import Fraction

from free import forced_plainly, free_system
from helpers import Case, fraction, strange
from second import small_system
from test_meets import changed
from test_registry import tell, text

from evenpatch.checks import space_of, unit_names, with_body
from evenpatch.errors import InvalidNumber, InvalidOutcomes, InvalidStore, InvalidSystem, NotFair, PactError, TooMany
from evenpatch.meets import stands_for
from evenpatch.parties import larger, sides
from evenpatch.plans import value
from evenpatch.ratios import Ratio
from evenpatch.trust import least_trust, trust


def rich_text(many):
    """A system whose last unit has so many rows from the store 0, from 15 on."""
    wide = "choose p1 a { set x = 1 } or b { } " + "choose p2 a { } or b { } " * 7
    return text("unit game { " + "choose net a { } or b { } " * (many - 15) + wide + "}")


def chance_payoff(outcomes, many):
    return [int(at in outcomes) for at in range(many)]


class Trust(Case):
    def test_without_loops(self):
        rng = random.Random(155)
        counted = {True: 0, False: 0}
        for _ in range(250):
            system = free_system(rng)
            many = len(space_of(system)) + 1
            store = rng.randrange(many - 1)
            outcomes = sorted(rng.sample(range(many), rng.randint(0, many)))
            unit = unit_names(system)[-1]
            chances = {side: forced_plainly(system, unit, store, side, chance_payoff(outcomes, many))
                       for side in sides(system[0])}
            one = rng.choice([*chances.values(), Fraction(rng.randint(-2, 9), 7)])
            number = Ratio(one.numerator, one.denominator)
            if one.denominator == 1 and rng.random() < 0.5:
                number = one.numerator
            found = tell(trust, system, store, outcomes, number)
            if isinstance(found, tuple):
                continue
            self.assertEqual(found, [side for side in sides(system[0]) if chances[side] >= one])
            self.same_least(system, store, outcomes, number, found)
            for side in sides(system[0]):
                counted[side in found] += 1
        self.assertGreater(min(counted.values()), 100)

    def same_least(self, system, store, outcomes, number, found):
        least = [side for side in found if sum(set(other) <= set(side) for other in found) == 1]
        self.assertEqual(least_trust(system, store, outcomes, number), least)

    def test_over_many_systems(self):
        """The values tell it; with a side each larger one is there, and chances of parted sides sum to at most 1."""
        rng = random.Random(156)
        let = 0
        for _ in range(160):
            system = small_system(rng, most=4)
            many = len(space_of(system)) + 1
            store = rng.randrange(many - 1)
            outcomes = sorted(rng.sample(range(many), rng.randint(0, many)))
            unit = unit_names(system)[-1]
            try:
                values = {side: fraction(value(system, unit, store, side, chance_payoff(outcomes, many)))
                          for side in sides(system[0])}
            except PactError as error:
                want = (type(error), list(vars(error).values()))
                self.assertEqual(tell(trust, system, store, outcomes, 0), want)
                self.assertEqual(tell(least_trust, system, store, outcomes, 0), want)
                continue
            number = rng.choice([*values.values(), Fraction(1, 2)])
            number = Ratio(number.numerator, number.denominator)
            found = trust(system, store, tuple(outcomes), number)
            self.assertEqual(found, [side for side in sides(system[0]) if values[side] >= fraction(number)])
            self.same_least(system, store, outcomes, number, found)
            for side in found:
                self.assertLessEqual(set(larger(side, system[0])), set(found))
            others = [at for at in range(many) if at not in outcomes]
            for side in sides(system[0]):
                for other in sides(system[0]):
                    if not set(side) & set(other):
                        more = fraction(value(system, unit, store, other, chance_payoff(others, many)))
                        self.assertLessEqual(values[side] + more, 1)
            let += self.upgraded(rng, system, store, outcomes, number, found)
        self.assertGreater(let, 20)

    def upgraded(self, rng, system, store, outcomes, number, found):
        """A side for which a body is let by stays in the list, and all larger ones."""
        count = 0
        unit = rng.choice(unit_names(system))
        body = changed(rng, system, unit)
        after = tell(trust, with_body(system, unit, body), store, outcomes, number)
        for side in found:
            if isinstance(after, list) and tell(stands_for, system, unit, body, side) is True:
                count += 1
                self.assertLessEqual(set(larger(side, system[0])), set(after))
        return count

    def test_edges(self):
        system = text("unit game { while x = 0 { choose p1 a { set x = 1 } or b { } } }")
        self.assertEqual(trust(system=system, store=0, outcomes=[2], number=1), [(1,), (1, 2)])
        self.assertEqual(trust(system, 0, [1], 1), [(1,), (1, 2)])
        self.assertEqual(trust(system, 0, [], 0), sides(2))
        self.assertEqual(trust(system, 0, (), Ratio(1, 10 ** 50)), [])
        self.assertEqual(trust(system, 0, [], -7), sides(2))
        self.assertEqual(trust(system, 0, [0, 1, 2], 1), sides(2))
        self.assertEqual(trust(system, 0, (0, 1, 2), Ratio(10 ** 50 + 1, 10 ** 50)), [])
        self.assertEqual(least_trust(system=system, store=0, outcomes=[1, 2], number=Ratio(1)), [()])
        self.assertEqual(least_trust(system, 0, [1], Ratio(1, 2)), [(1,)])
        self.assertEqual(least_trust(system, 0, [0], Ratio(1, 2)), [])
        found = trust(system, 0, [1], 1)
        found.clear()
        self.assertEqual(trust(system, 0, [1], 1), [(1,), (1, 2)])

    def test_errors(self):
        system = text("unit game { }")
        for call in (trust, least_trust):
            for wrong in strange():
                self.refused(InvalidSystem, [wrong], call, wrong, None, None, None)
            self.refused(NotFair, ["twice", None, "x"], call, (2, (("x", 2),), (("x", ()),)), None, None, None)
            for wrong in [*strange(), 2, -1, Ratio(0)]:
                self.refused(InvalidStore, [wrong], call, system, wrong, None, None)
            for wrong in [*[one for one in strange() if one not in ([], ())], [3], [-1], [0, 0], [1, 0], [True], [Ratio(1)],
                          {0: 1}, 1, [0, 1, 2, 3], [None]]:
                self.refused(InvalidOutcomes, [wrong], call, system, 0, wrong, None)
            for wrong in [one for one in strange() if not isinstance(one, (int, Ratio)) or isinstance(one, bool)]:
                self.refused(InvalidNumber, [wrong], call, system, 0, [0], wrong)

    def test_bounds(self):
        """More rows than there may be are told, those of a called unit too."""
        for many in (24, 25):
            system = rich_text(many)
            if many == 24:
                self.assertEqual(trust(system, 0, [0], 0), sides(2))
            else:
                self.refused(TooMany, [25], trust, system, 0, [0], 0)


if __name__ == "__main__":
    unittest.main()

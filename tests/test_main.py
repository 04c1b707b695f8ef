"""The main statement [2]: who plays by a guide brings in at least what it forced, less what its purse has paid."""

import random
import unittest
from fractions import Fraction

from brute import quiet
from helpers import Case, fraction
from second import any_answer, small_system
from test_house import text
from test_records import deed
from test_registry import exchange_some, some_sides

from evenpatch.checks import unit_names
from evenpatch.guides import Guide
from evenpatch.house import House
from evenpatch.parties import sides
from evenpatch.pictures import go_on, picture
from evenpatch.plans import value
from evenpatch.ratios import Ratio
from evenpatch.registry import Registry
from evenpatch.worth import worth

COINS = ["choose p1 a { set x = 0 } or b { set x = 1 }", "choose p2 a { set x = 0 } or b { set x = 1 }", "draw x 0 by 1 1 by 1",
         "draw x 0 by 1 1 by 4", "spin p1 x 0 by 3 1 by 1", "set x = 1", "spin p2 x 0 by 1 1 by 1", "while yes { }"]


class Long(Exception):
    """A session with too many wheels to go through all of them."""


class Main(Case):
    def test_over_many_houses(self):
        rng = random.Random(2)
        counted = {"paid": 0, "moved": 0, "exchanged": 0, "gone on": 0}
        told = 0
        while told < 150:
            sample = rng.random()
            house = self.house(random.Random(sample))
            if house is None:
                continue
            try:
                told += self.check(sample, counted)
            except Long:
                pass
        self.assertGreater(min(counted.values()), 30)

    def house(self, rng):
        """A house, with a session in some of its stores, or None."""
        if rng.random() < 0.5:
            body = rng.choice(COINS)
            game = "call toss while x = 0 { call toss choose p2 go { } or stop { set x = 1 } } call toss"
            system = text(f"unit toss {{ {body} }} unit game {{ {game} }}")
        else:
            system = small_system(rng, many=rng.randint(1, 3), most=4)
        registry = quiet(Registry, system, some_sides(rng, system[0]))
        if registry is None:
            return None
        house = House(registry)
        self.upgrade(rng, system, house)
        house.begin(rng.randrange(registry.space.never), [Ratio(rng.randint(0, 4), 2) for _ in registry.promised()])
        return house

    def upgrade(self, rng, system, house):
        if unit_names(system)[0] == "toss" and rng.random() < 0.7:
            quiet(house.registry.exchange_at, "toss", text(f"unit toss {{ {rng.choice(COINS)} }}")[2][0][1], Ratio(rng.randint(1, 4), 4))
        else:
            exchange_some(rng, system, house.registry, 1)

    def check(self, sample, counted):
        rng = random.Random(sample + 1)
        house = self.house(random.Random(sample))
        system = house.registry.published()
        side = rng.choice(house.registry.promised())
        payoff = [rng.randint(-2, 2) for _ in range(house.registry.space.never + 1)]
        store = house.start_of(0)[0]
        forced = value(system, unit_names(system)[-1], store, side, payoff)
        brought = self.mean_of(sample, side, payoff, counted)
        self.assertGreaterEqual(brought, fraction(forced))
        return 1

    def mean_of(self, sample, side, payoff, counted, most=40):
        """The mean over all wheels of what is brought, and of what the purse has paid by the width of the payoff."""
        total, waiting, count = Fraction(0), [((), Fraction(1))], 0
        while waiting:
            parts, share = waiting.pop()
            count += 1
            if count > most:
                raise Long()
            kind, number = self.played(sample, side, payoff, parts, counted)
            if kind == "brought":
                total += share * number
            else:
                waiting.extend(((*parts, part), share / number) for part in range(number))
        return total

    def played(self, sample, side, payoff, parts, counted, steps=16):
        """Plays with these parts of wheels; all else hangs on what has been, so it is the same each time."""
        house = self.house(random.Random(sample))
        system = house.registry.published()
        left = list(parts)
        guide = Guide(house, 0, side, payoff)
        for _ in range(steps):
            asked = house.asks(0)
            if asked[0] == "over":
                break
            rng = random.Random(f"{sample} {house.lines(0)}")
            lines = len(house.lines(0))
            if rng.random() < 0.4:
                self.upgrade(rng, system, house)
                deed(rng, system, house, 0)
                counted["exchanged"] += any(len(house.registry.editions(unit)) > 1 for unit in unit_names(system))
                counted["moved"] += len(house.lines(0)) > lines
            if rng.random() < 0.1:
                counted["gone on"] += 1
                house = go_on(picture(house))
                guide = Guide(house, 0, side, payoff)
            asked = house.asks(0)
            answer = guide.label()
            if asked[0] == "turn" or (asked[0] == "spin" and asked[1] in side):
                if not left:
                    return "turn", asked[-1]
                answer = left.pop(0)
            elif answer is None:
                answer = any_answer(rng, asked)
            house.step(0, answer)
        at = house.registry.promised().index(side)
        lost = fraction(house.start_of(0)[2][at]) - fraction(house.purses_left(0)[at])
        counted["paid"] += lost > 0
        # What is still held counts where a session has not ended: [146] tells that it is never less in the mean.
        return "brought", fraction(worth(house, 0, side, payoff)) + lost * (max(payoff) - min(payoff))

    def test_it_and_each_larger_side_with_empty_purses(self):
        """What a promised side forces by the published protocol each larger side forces, too, in each new session."""
        rng = random.Random(22)
        for _ in range(80):
            sample = rng.random()
            house = self.house(random.Random(sample))
            if house is None:
                continue
            registry = house.registry
            payoff = [rng.randint(-2, 2) for _ in range(registry.space.never + 1)]
            store = rng.randrange(registry.space.never)
            session = house.begin(store)
            for side in registry.promised():
                forced = fraction(value(registry.published(), registry.last_unit(), store, side, payoff))
                for other in sides(registry.published()[0]):
                    if set(side) <= set(other):
                        found = quiet(worth, house, session, other, payoff)
                        if found is not None:
                            self.assertGreaterEqual(fraction(found), forced)


if __name__ == "__main__":
    unittest.main()

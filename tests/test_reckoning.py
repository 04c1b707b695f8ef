"""Tests of evenpatch.reckoning."""

import random
import unittest
from fractions import Fraction
from itertools import chain

from brute import quiet
from helpers import Case, fraction, strange
from second import any_answer
from test_house import text
from test_records import deed, live_sessions
from test_worth import some_payoff

from evenpatch.errors import InvalidPayoff, InvalidSession, InvalidSide
from evenpatch.house import House
from evenpatch.parties import sides
from evenpatch.pictures import go_on, picture
from evenpatch.ratios import Ratio
from evenpatch.reckoning import reckoning
from evenpatch.records import record_of
from evenpatch.registry import Registry
from evenpatch.worth import worth


def priced_sessions(rng, count):
    """Sessions that call a unit which has been exchanged at prices, behind each deed."""
    for _ in range(count):
        bodies = ["choose p1 a { set x = 0 } or b { set x = 1 }", "choose p2 a { set x = 0 } or b { set x = 1 }",
                  "draw x 0 by 1 1 by 1", "draw x 0 by 1 1 by 4", "spin p1 x 0 by 3 1 by 1", "set x = 1", "spin p2 x 0 by 1 1 by 1"]
        rng.shuffle(bodies)
        game = "call toss while x = 0 { call toss choose p2 go { } or stop { set x = 1 } }"
        system = text(f"unit toss {{ {bodies[0]} }} unit game {{ {game} call toss }}")
        house = House(Registry(system, sorted(rng.sample(sides(2), 2))))
        for body in bodies[1:4]:
            quiet(house.registry.exchange_at, "toss", text(f"unit toss {{ {body} }}")[2][0][1], Ratio(rng.randint(1, 4), 4))
        session = house.begin(rng.randrange(2), [rng.randint(0, 3) for _ in range(2)])
        yield system, house, session
        for _ in range(14):
            if house.asks(session)[0] == "over":
                break
            if rng.random() < 0.3:
                quiet(house.registry.stand, "toss", rng.randrange(len(house.registry.editions("toss"))))
            if rng.random() < 0.4:
                deed(rng, system, house, session)
            else:
                house.step(session, any_answer(rng, house.asks(session)))
            yield system, house, session


class Reckonings(Case):
    def test_of_sessions(self):
        """Step by step: each number is what the line has changed; signs of the kinds; all that is paid is covered."""
        rng = random.Random(165)
        seen = {}
        kept = None
        for at, (system, house, session) in enumerate(chain(live_sessions(rng, 60), priced_sessions(rng, 90))):
            if kept is not house:
                worths, kept = {}, house
                payoff = some_payoff(rng, house.registry.space.never + 1, at)
                sides_there = house.registry.promised()
            lines = record_of(house, session)[2]
            for side in sides_there:
                worths[(side, len(lines))] = fraction(worth(house, session, side, payoff))
            side = rng.choice(sides_there)
            told = reckoning(house, session, side, payoff)
            self.assertEqual(len(told), len(lines))
            self.assert_ratios([number for _, number in told])
            self.check_lines(house, side, lines, told, worths)
            self.check_paid(house, session, side, payoff, told)
            self.check_luck(house, session, side, payoff, at)
            for kind, _ in told:
                seen[kind] = seen.get(kind, 0) + 1
            told.clear()
        self.assertEqual(set(seen), {"begin", "luck", "own", "others", "gift", "paid", "same"})
        self.assertGreater(min(seen.values()), 10)

    def check_lines(self, house, side, lines, told, worths):
        self.assertEqual(told[0][0], "begin")
        total = Fraction(0)
        for count, (line, (kind, number)) in enumerate(zip(lines, told), 1):
            total += fraction(number)
            self.assertEqual(total, worths[(side, count)])
            word = line.split(" ")[0]
            if count == 1:
                continue
            change = fraction(number)
            if kind in ("gift", "paid", "same"):
                self.assertEqual(kind, "gift" if change > 0 else "paid" if change < 0 else "same")
                self.assertIn(word, ("loop", "call", "back", "move"))
            if word in ("loop", "back"):
                self.assertEqual(kind, "same")
            if word == "move":
                self.assertNotEqual(kind, "paid")
            if word == "call" and (line.endswith(" 0") or house.registry.bundle_of(*(line.split(" ")[1], int(line.split(" ")[2])))):
                self.assertIn(kind, ("same", "gift"))
            if word == "call" and line.endswith(" 0"):
                self.assertEqual(kind, "same")
            if word == "turn":
                self.assertEqual(kind, "luck")
            if word == "spin":
                self.assertIn(kind, ("luck", "others"))
            if word == "choose":
                self.assertIn(kind, ("own", "others"))
            if kind == "own":
                self.assertLessEqual(change, 0)
            if kind == "others":
                self.assertGreaterEqual(change, 0)

    def check_paid(self, house, session, side, payoff, told):
        """All that calls have paid is at most what the purse has lost, multiplied by the width of the payoff."""
        at = house.registry.promised().index(side)
        lost = fraction(house.start_of(session)[2][at]) - fraction(house.purses_left(session)[at])
        paid = -sum(fraction(number) for kind, number in told if kind == "paid")
        unit = house.registry.last_unit()
        # What the first call has cost is in its number, so it is left aside here.
        first = dict(house.registry.harms(unit, house.start_of(session)[1]))[side][house.start_of(session)[0]]
        self.assertLessEqual(paid, (lost - fraction(first)) * (max(payoff) - min(payoff)))

    def check_luck(self, house, session, side, payoff, at):
        """The parts of a wheel have the mean 0; some label, or part of the others, changes nothing."""
        asked = house.asks(session)
        if at % 3 or asked[0] not in ("turn", "spin", "choose"):
            return
        lines = picture(house)
        numbers = []
        for answer in (asked[2] if asked[0] == "choose" else range(asked[-1])):
            other = go_on(lines)
            other.step(session, answer)
            kind, number = reckoning(other, session, side, payoff)[-1]
            numbers.append(fraction(number))
        if asked[0] == "turn" or (asked[0] == "spin" and asked[1] in side):
            self.assertEqual([kind, sum(numbers)], ["luck", 0])
        elif asked[0] == "choose" and asked[1] in side:
            self.assertEqual([kind, max(numbers)], ["own", 0])
        else:
            self.assertEqual([kind, min(numbers)], ["others", 0])

    def test_kinds(self):
        system = text("unit w { choose p2 a { } or b { set x = 1 } } unit game { spin p1 x 0 by 1 1 by 1 spin p2 x 0 by 1 1 by 3 "
                      "choose p1 c { } or d { } choose net e { } or f { } draw x 0 by 1 1 by 1 call w while x = 1 { set x = 0 } }")
        house = House(Registry(system, [(1,), (2,)]))
        house.begin(1)
        for answer in (0, 2, "d", "f", 1, None, "b", None, None, None):
            house.step(0, answer)
        self.assertEqual(house.asks(0)[0], "over")
        for side, own in (((1,), ["luck", "others", "own", "others"]), ((2,), ["others", "luck", "others", "others"])):
            told = reckoning(house=house, session=0, side=side, payoff=(4, 2, 0))
            kinds = [kind for kind, _ in told]
            self.assertEqual(kinds[:5], ["begin", *own])
            self.assertEqual(kinds[5:], ["luck", "same", "own" if side == (2,) else "others", "same", "same", "same"])
            self.assertEqual(sum(fraction(number) for _, number in told), 4)

    def test_what_a_first_call_costs_is_in_its_number(self):
        system = text("unit game { choose p1 a { set x = 0 } or b { set x = 1 } }")
        registry = Registry(system, [(1,)])
        registry.exchange_at("game", (("draw", "x", ((0, 1), (1, 1))),), Ratio(1, 2))
        house = House(registry)
        for purse, number in ((1, 4), (0, 8)):
            session = house.begin(0, [purse])
            self.assertEqual([(kind, str(one)) for kind, one in reckoning(house, session, (1,), [0, 8, 0])], [("begin", str(number))])

    def test_errors(self):
        house = House(Registry(text("unit game { }"), [(1,)]))
        house.begin(0)
        for wrong in [*strange(), 1, -1, Ratio(0), "0"]:
            self.refused(InvalidSession, [wrong], reckoning, house, wrong, None, None)
        for wrong in [*strange(), (2,), (1, 2), [1], (True,), (Ratio(1),)]:
            self.refused(InvalidSide, [wrong], reckoning, house, 0, wrong, None)
        for wrong in [*strange(), [1, 2], [1, 2, True], [1, 2, Ratio(3)]]:
            self.refused(InvalidPayoff, [wrong], reckoning, house, 0, (1,), wrong)

    def test_long_sessions(self):
        """Some hundred steps, with a loop, are reckoned at once."""
        rng = random.Random(1652)
        system = text("unit w { draw x 0 by 1 1 by 1 } unit game { while x < 2 { call w choose p1 a { } or b { set x = 1 - x } } }",
                      "name x 3")
        house = House(Registry(system, [(1,)]))
        house.begin(0)
        for _ in range(400):
            house.step(0, any_answer(rng, house.asks(0)))
        told = reckoning(house, 0, (1,), [0, 1, 2, -1])
        self.assertEqual(len(told), 401)
        self.assertEqual(sum(fraction(number) for _, number in told), fraction(worth(house, 0, (1,), [0, 1, 2, -1])))


if __name__ == "__main__":
    unittest.main()

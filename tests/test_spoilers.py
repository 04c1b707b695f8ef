"""Tests of evenpatch.spoilers."""

import random
import unittest
from fractions import Fraction

from free import all_of
from helpers import Case, fraction, strange
from second import Small, small_system
from test_registry import tell, text

from evenpatch.checks import body_of, space_of, unit_names, with_body
from evenpatch.errors import InvalidSide, InvalidStore, InvalidSystem, InvalidUnit, NotFair
from evenpatch.meets import harm
from evenpatch.parties import rest, sides
from evenpatch.plans import value
from evenpatch.ratios import Ratio
from evenpatch.spoilers import spoiler


def has_draw(system, unit):
    found = list(all_of(body_of(system, unit)))
    return any(one[0] == "draw" for one in found) or any(
        has_draw(system, one[1]) for one in found if one[0] == "call")


def as_choices(system, side):
    """The system with one party for the side and the net, and another one for all others; spins are choices."""
    def turned(body):
        return tuple(one(statement) for statement in body)

    def one(statement):
        kind = statement[0]
        if kind == "choose":
            who = 1 if statement[1] in (0, *side) else 2
            return kind, who, tuple((label, turned(inner)) for label, inner in statement[2])
        if kind == "spin":
            who = 1 if statement[1] in side else 2
            words = ("a", "b", "c")
            return "choose", who, tuple((word, (("set", statement[2], ("num", worth)),))
                                        for word, (worth, _) in zip(words, statement[3]))
        if kind in ("if", "while"):
            return (*statement[:2], *[turned(inner) for inner in statement[2:]])
        return statement

    return 2, system[1], tuple((unit, turned(body)) for unit, body in system[2])


class Spoilers(Case):
    def test_by_values(self):
        """The side if with the net it forces the target surely, each spin a choice of its party."""
        rng = random.Random(158)
        counted = {True: 0, False: 0}
        drawn = 0
        for _ in range(400):
            system = small_system(rng, most=5)
            unit = rng.choice(unit_names(system))
            store, target = [rng.randrange(len(space_of(system))) for _ in range(2)]
            side = rng.choice(sides(system[0]))
            if has_draw(system, unit):
                drawn += 1
                self.refused(InvalidUnit, [unit], spoiler, system, unit, store, side, target)
                continue
            found = spoiler(system, unit, store, side, target)
            payoff = [int(at == target) for at in range(len(space_of(system)) + 1)]
            chance = tell(value, as_choices(system, side), unit, store, (1,), payoff)
            if not isinstance(chance, tuple):
                is_side = chance == 1
                counted[is_side] += 1
                self.assertIn(fraction(chance), (0, 1))
                self.assertEqual(found, side if is_side else rest(side, system[0]))
        self.assertGreater(min(*counted.values(), drawn), 60)

    def test_for_ever_spoils(self):
        """What goes on for ever spoils nothing for who wants the target not to come, and serves the other one."""
        loop = "while x = 0 { choose p1 go { set x = 1 } or stay { } } "
        system = text("unit game { " + loop + "}")
        self.assertEqual([spoiler(system, "game", 0, side, 1) for side in sides(2)], [(1, 2), (1,), (1, 2), (1,)])
        system = text("unit game { while yes { } }")
        self.assertEqual([spoiler(system, "game", 0, side, 0) for side in sides(2)], [(1, 2), (2,), (), (1,)])
        system = text("unit u { choose net a { } or b { set x = 1 } } unit game { while x = 0 { call u } }")
        self.assertEqual([spoiler(system, "game", 0, side, 1) for side in sides(2)], sides(2))
        self.assertEqual([spoiler(system=system, unit="game", store=1, side=(2,), target=0)], [(1,)])

    def test_a_call_takes_what_is_behind_it(self):
        """Which end of a called unit is wanted hangs on what stands behind the call, and on loops around it."""
        system = text("unit u { choose p1 a { set x = 1 } or b { choose p2 c { set x = 2 } or d { set x = 0 } } } "
                      "unit game { while x < 2 { call u if x = 2 { set x = 0 choose p2 e { set x = 1 } or f { } } "
                      "else { if x = 1 { set x = 2 } else { } } } }", "name x 3")
        self.assertEqual([spoiler(system, "game", 0, side, 2) for side in sides(2)], [(1, 2), (1,), (1, 2), (1,)])

    def test_however_many_rows(self):
        body = "choose p1 a { } or b { set x = x + 1 } " * 5
        units = " ".join(f"unit {word} {{ {body} }}" for word in ("u", "v", "w"))
        system = text(units + " unit game { call u call v call w while yes { while yes { call u call v call w } } }", "name x 6")
        self.assertEqual(spoiler(system, "game", 0, (1,), 5), (2,))
        self.assertEqual(spoiler(system, "w", 0, (1,), 5), (1,))
        self.assertEqual(spoiler(system, "w", 0, (2,), 5), (1,))

    def test_draws(self):
        """A draw is refused wherever it stands, come to or not, also in what is called, but not in other units."""
        system = text("unit u { if x < 0 { draw x 0 by 1 1 by 1 } else { } } unit v { if x < 0 { call u } else { } } "
                      "unit w { call v } unit game { }")
        for unit in ("u", "v", "w"):
            for store, side, target in ((0, (), 0), (None, None, None), (9, (9,), 9)):
                self.refused(InvalidUnit, [unit], spoiler, system, unit, store, side, target)
        self.assertEqual(spoiler(system, "game", 0, (1,), 0), (1,))

    def test_errors(self):
        system = text("unit game { }")
        for wrong in strange():
            self.refused(InvalidSystem, [wrong], spoiler, wrong, 1, 2, 3, 4)
            self.refused(InvalidUnit, [wrong], spoiler, system, wrong, 2, 3, 4)
        self.refused(NotFair, ["twice", None, "x"], spoiler, (2, (("x", 2),), (("x", ()),)), 1, 2, 3, 4)
        for wrong in [*strange(), 2, -1, Ratio(0)]:
            self.refused(InvalidStore, [wrong], spoiler, system, "game", wrong, None, None)
            self.refused(InvalidStore, [wrong], spoiler, system, "game", 0, (1,), wrong)
        for wrong in [*[one for one in strange() if one != ()], (3,), [1], (True,)]:
            self.refused(InvalidSide, [wrong], spoiler, system, "game", 0, wrong, None)

    def test_no_toss_in_the_open(self):
        """What takes the place of one lot harms the side or its rest by as much as the lot gives and takes."""
        rng = random.Random(159)
        counted = {True: 0, False: 0}
        for _ in range(300):
            weights = [(at, rng.randint(1, 4)) for at in range(2)]
            system = text("unit toss { draw x " + " ".join(f"{at} by {by}" for at, by in weights) + " } unit game { call toss }")
            maker = Small(rng, 2, system[1], [], rng.randint(1, 6))
            body = maker.body(0, 0)
            if any(one[0] == "draw" for one in all_of(body)):
                continue
            new = with_body(system, "toss", body)
            store, target = rng.randrange(2), rng.randrange(2)
            share = Fraction(weights[target][1], sum(by for _, by in weights))
            for side in sides(2):
                other = rest(side, 2)
                is_side = spoiler(new, "toss", store, side, target) == side
                if is_side:
                    found = tell(harm, system, "toss", body, other)
                    least = 1 - share
                else:
                    found = tell(harm, system, "toss", body, side)
                    least = share
                if isinstance(found, list):
                    counted[is_side] += 1
                    self.assertGreaterEqual(fraction(found[store]), least)
        self.assertGreater(min(counted.values()), 60)


if __name__ == "__main__":
    unittest.main()

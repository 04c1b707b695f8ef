"""Tests of evenpatch.sheets."""

import random
import unittest

from free import all_of, forced_plainly, free_body, free_system
from helpers import Case, fraction, strange
from second import small_system
from test_meets import changed
from test_registry import tell, text

from evenpatch.checks import body_of, calls_of, space_of, statements, unit_names, with_body
from evenpatch.errors import InvalidBody, InvalidPath, InvalidSystem, InvalidUnit, NotFair, TooGreat, TooMany, TooRich
from evenpatch.meets import harm, harm_paper, paper_for, stands_for
from evenpatch.parties import rest, sides
from evenpatch.plans import value
from evenpatch.ratios import Ratio
from evenpatch.sheets import idle, sheet

BOUNDS = (TooGreat, TooMany, TooRich)


def has_enemy_luck(system, unit, more=()):
    """Whether a spin or a choose of the net stands in a unit, in other bodies, or in what is called there."""
    found = list(all_of(body_of(system, unit)))
    for body in more:
        found.extend(all_of(body))
    names = {statement[1] for statement in found if statement[0] == "call"} | set(calls_of(system, unit))
    return any(one[0] == "spin" or (one[0] == "choose" and one[1] == 0) for one in found) or any(
        has_enemy_luck(system, name) for name in names)


def without(body, path, index):
    """The body without a label, by going down to its choose."""
    at = path[0]
    statement = body[at]
    if len(path) == 1:
        left = [pair for k, pair in enumerate(statement[2]) if k != index]
        here = left[0][1] if len(left) == 1 else (("choose", statement[1], tuple(left)),)
        return body[:at] + here + body[at + 1:]
    if statement[0] == "choose":
        pairs = list(statement[2])
        pairs[path[1]] = (pairs[path[1]][0], without(pairs[path[1]][1], path[2:], index))
        here = ("choose", statement[1], tuple(pairs))
    else:
        parts = list(statement)
        parts[2 + path[1]] = without(parts[2 + path[1]], path[2:], index)
        here = tuple(parts)
    return body[:at] + (here,) + body[at + 1:]


class Sheets(Case):
    def test_over_many_systems(self):
        """Harms and gains are those of harm, both ways; all are 0 where the body is let by; gains are the rest's harms."""
        rng = random.Random(151)
        counted = {"told": 0, "errors": 0, "rest": 0}
        for _ in range(300):
            system = small_system(rng, many=rng.randint(1, 3), most=rng.choice([4, 4, 9]))
            unit = rng.choice(unit_names(system))
            body = changed(rng, system, unit)
            want = tell(self.plain, system, unit, body)
            got = tell(sheet, system, unit, body)
            if isinstance(want, tuple):
                counted["errors"] += 1
                self.assertEqual(got, want)
                continue
            counted["told"] += 1
            self.assertEqual([one[0] for one in got], sides(system[0]))
            for (side, harms, gains), (_, one, other) in zip(got, want):
                self.assertEqual([self.assert_ratios(harms), self.assert_ratios(gains)],
                                 [self.assert_ratios(one), self.assert_ratios(other)])
                self.assertEqual(stands_for(system, unit, body, side), all(item == 0 for item in harms))
            if not has_enemy_luck(system, unit, [body]):
                counted["rest"] += 1
                table = {side: (harms, gains) for side, harms, gains in got}
                for side in table:
                    self.assertEqual(table[side][1], table[rest(side, system[0])][0])
        self.assertGreater(counted["told"], 150)
        self.assertGreater(counted["rest"], 20)

    def plain(self, system, unit, body):
        new = with_body(system, unit, body)
        return [(side, harm(system, unit, body, side), harm(new, unit, body_of(system, unit), side))
                for side in sides(system[0])]

    def test_errors_come_side_by_side(self):
        """For one side what harm raises for the harms and then for the gains, ahead of the next side."""
        rng = random.Random(1511)
        counted = 0
        for _ in range(60):
            leaves = [f"{word} {{ draw x 0 by {by} 1 by {rng.randint(1, 12)} }}" for word, by in zip("abc", (1, 5, 7))]
            deep = " ".join(["choose p1 " + " or ".join(leaves)] * rng.randint(1, 3))
            deep += " " + " ".join(["choose p2 " + " or ".join(leaves[:2])] * rng.randint(0, 2))
            system = text(f"unit u {{ {deep} }} unit game {{ call u }}") if rng.random() < 0.5 else text(
                f"unit u {{ }} unit game {{ call u {deep} }}")
            for args in ((system, "game", ()), (with_body(system, "game", ()), "game", body_of(system, "game"))):
                want, got = tell(self.plain, *args), tell(sheet, *args)
                if isinstance(want, tuple):
                    counted += 1
                    self.assertEqual(got, want)
        self.assertGreater(counted, 10)

    def test_without_loops(self):
        """No payoff from 0 to 1 loses more than the harm, and that of a paper of harms loses just as much."""
        rng = random.Random(98)
        for _ in range(120):
            system = free_system(rng)
            unit = rng.choice(unit_names(system))
            names = unit_names(system)
            body = free_body(rng, system[0], system[1], names[:names.index(unit)], 4)
            got = tell(sheet, system, unit, body)
            if isinstance(got, tuple):
                continue
            new = with_body(system, unit, body)
            for side, harms, gains in got:
                for one, other, numbers, paper in (
                        (system, new, harms, harm_paper(system, unit, body, side)),
                        (new, system, gains, harm_paper(new, unit, body_of(system, unit), side))):
                    for store in range(len(space_of(system))):
                        most = fraction(numbers[store])
                        payoffs = [[rng.randint(0, 3) for _ in range(len(numbers) + 1)] for _ in range(3)]
                        for payoff in [*payoffs, paper[store][3]]:
                            lost = (forced_plainly(one, unit, store, side, payoff)
                                    - forced_plainly(other, unit, store, side, payoff))
                            self.assertLessEqual(lost, most * max(payoff))
                        self.assertEqual(lost, most * max(payoff))

    def test_new_lists(self):
        system = text("unit toss { draw x 0 by 1 1 by 1 }")
        body = (("spin", 1, "x", ((0, 1), (1, 1))),)
        first = sheet(system=system, unit="toss", body=body)
        first[0][1].clear()
        first[1][2].append(3)
        first.pop()
        again = sheet(system, "toss", body)
        self.assertEqual([(side, [str(one) for one in harms], [str(one) for one in gains]) for side, harms, gains in again],
                         [((), ["1/2"] * 2, ["0"] * 2), ((1,), ["0"] * 2, ["0"] * 2), ((1, 2), ["0"] * 2, ["0"] * 2),
                          ((2,), ["1/2"] * 2, ["0"] * 2)])

    def test_errors(self):
        system = text("unit toss { } unit game { call toss }")
        for wrong in strange():
            self.refused(InvalidSystem, [wrong], sheet, wrong, 1, 2)
            self.refused(InvalidUnit, [wrong], sheet, system, wrong, 2)
            if wrong not in ((),):
                self.refused(InvalidBody, [wrong], sheet, system, "toss", wrong)
        self.refused(NotFair, ["call", "toss", "game"], sheet, system, "toss", (("call", "game"),))
        self.refused(NotFair, ["twice", None, "x"], sheet, (2, (("x", 2),), (("x", ()),)), 1, 2)


class Idle(Case):
    def test_over_many_systems(self):
        rng = random.Random(153)
        counted = {"told": 0, "errors": 0, "idle": 0, "not": 0}
        for _ in range(260):
            system = small_system(rng, many=rng.randint(1, 2), most=6)
            unit = rng.choice(unit_names(system))
            for path, statement in statements(system, unit):
                if statement[0] != "choose":
                    self.refused(InvalidPath, [path], idle, system, unit, path)
                    continue
                want, got = tell(self.plain, system, unit, path, statement), tell(idle, system, unit, path)
                self.assertEqual(got, want)
                counted["errors" if isinstance(want, tuple) else "told"] += 1
                if isinstance(want, list):
                    self.whose(system, unit, path, statement, counted)
        self.assertGreater(min(counted["told"], counted["idle"], counted["not"]), 60)

    def plain(self, system, unit, path, statement):
        found = []
        for index in range(len(statement[2])):
            body = without(body_of(system, unit), path, index)
            found.append([])
            for side in sides(system[0]):
                told = [stands_for(system, unit, body, side),
                        stands_for(with_body(system, unit, body), unit, body_of(system, unit), side)]
                if all(told):
                    found[-1].append(side)
        return found

    def whose(self, system, unit, path, statement, counted):
        """The other half alone tells whether a label is idle; of two labels with equal bodies each is."""
        found = idle(system, unit, path)
        old = body_of(system, unit)
        for index, pair in enumerate(statement[2]):
            body = without(old, path, index)
            for side in sides(system[0]):
                counted["idle" if side in found[index] else "not"] += 1
                if statement[1] in side:
                    self.assertTrue(stands_for(with_body(system, unit, body), unit, old, side))
                else:
                    self.assertTrue(stands_for(system, unit, body, side))
            if sum(pair[1] == other for _, other in statement[2]) > 1:
                self.assertEqual(found[index], sides(system[0]))

    def test_without_loops(self):
        """Where a label is idle each payoff has the same value without it, elsewhere one of an attack has not."""
        rng = random.Random(1531)
        for _ in range(70):
            system = free_system(rng)
            unit = rng.choice(unit_names(system))
            for path, statement in statements(system, unit):
                found = tell(idle, system, unit, path) if statement[0] == "choose" else ()
                for index, sides_there in enumerate(found if isinstance(found, list) else []):
                    body = without(body_of(system, unit), path, index)
                    new = with_body(system, unit, body)
                    for side in sides(system[0]):
                        payoffs = [[rng.randint(-2, 2) for _ in range(len(space_of(system)) + 1)] for _ in range(4)]
                        for paper in (paper_for(system, unit, body, side),
                                      paper_for(new, unit, body_of(system, unit), side)):
                            if paper[0] == "no":
                                payoffs.append(paper[3])
                        same = [forced_plainly(system, unit, store, side, payoff)
                                == forced_plainly(new, unit, store, side, payoff)
                                for payoff in payoffs for store in range(len(space_of(system)))]
                        self.assertEqual(all(same), side in sides_there)

    def test_paths(self):
        system = text("unit toss { if x = 0 { while yes { choose p1 a { } or b { set x = 1 } } } else { } }")
        path = (0, 0, 0, 0, 0)
        self.assertEqual(len(idle(system=system, unit="toss", path=path)), 2)
        for wrong in [*strange(), list(path), (0,), (0, 0, 0), path[:-1], (*path, 0), (0, 0, 0, 0, False), (0, 0, 0, 0, Ratio(0)),
                      (0, 0, 0, 0, 1), (False, 0, 0, 0, 0), (0, 0, 0, 0, -1), "0"]:
            self.refused(InvalidPath, [wrong], idle, system, "toss", wrong)
        for wrong in strange():
            self.refused(InvalidSystem, [wrong], idle, wrong, "toss", path)
            self.refused(InvalidUnit, [wrong], idle, system, wrong, None)
        found = idle(system, "toss", path)
        found[0].append(1)
        found.pop()
        self.assertEqual(len(idle(system, "toss", path)), 2)
        self.assertNotIn(1, idle(system, "toss", path)[0])

    def test_of_two_labels_the_other_body_stays(self):
        system = text("unit toss { choose p1 a { set x = 1 draw x 0 by 1 1 by 1 } or b { draw x 0 by 2 1 by 2 } }")
        self.assertEqual(idle(system, "toss", (0,)), [sides(2), sides(2)])
        system = text("unit toss { choose p1 a { set x = 1 } or b { } or c { set x = 1 } }")
        self.assertEqual(idle(system, "toss", (0,)), [sides(2), [], sides(2)])


class Values(Case):
    def test_plain_ones_are_values(self):
        """What is forced step by step is the value, so that the plain way here is a right one."""
        rng = random.Random(85)
        for _ in range(150):
            system = free_system(rng)
            unit = rng.choice(unit_names(system))
            payoff = [rng.randint(-3, 3) for _ in range(len(space_of(system)) + 1)]
            for side in sides(system[0]):
                for store in range(len(space_of(system))):
                    found = tell(value, system, unit, store, side, payoff)
                    if not isinstance(found, tuple):
                        self.assertEqual(fraction(found), forced_plainly(system, unit, store, side, payoff))


if __name__ == "__main__":
    unittest.main()

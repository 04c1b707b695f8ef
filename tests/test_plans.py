"""Tests of evenpatch.plans."""

import random
import unittest
from fractions import Fraction

from brute import OWN, Plain, quiet, web_over
from helpers import Case, fraction, mean_of, strange
from second import small_system
from systems import some_system

from evenpatch.checks import space_of, unit_names, with_body
from evenpatch.cones import mixing
from evenpatch.errors import (InvalidPayoff, InvalidPlan, InvalidSide, InvalidStore, InvalidSystem, InvalidUnit,
                              InvalidView, NotFair, Outside, PactError, TooGreat, TooMany, TooRich)
from evenpatch.hulls import corners, shares_in
from evenpatch.parties import larger, rest, sides
from evenpatch.plans import corners_by, families, forced, held, is_forced, is_held, value
from evenpatch.ratios import Ratio
from evenpatch.texts import read_system


def text(units, names="name x 3"):
    return read_system(f"parties 2 {names} {units}")


def is_inside(lots, others):
    """Whether the polygon of some lots has all of others."""
    try:
        for lot in others:
            shares_in(lots, lot)
    except Outside:
        return False
    return True


def plain_family(plain):
    sets = sorted({tuple(corners(plain.lots(plan))) for plan in plain.plans()})
    return [list(one) for one in sets if not any(one != other and is_inside(one, other) for other in sets)]


def cases(seed, count, most=200):
    """Random units of random systems with all plans from a store in both views, if they are not too many."""
    rng = random.Random(seed)
    found = 0
    while found < count:
        system = some_system(rng, True) if rng.random() < 0.3 else small_system(rng)
        unit = rng.choice(unit_names(system))
        side = rng.choice(sides(system[0]))
        store = rng.randrange(len(space_of(system)))
        try:
            nets = [web_over(system, unit, side, view) for view in "ST"]
            plains = [Plain(net, net.first(store)) for net in nets]
        except PactError:
            continue
        if len(plains[0].rows) < rng.randint(1, 5) or max(plain.count() for plain in plains) > most:
            continue
        found += 1
        yield rng, system, unit, store, side, plains


class Corners(Case):
    def test_against_all_plans(self):
        for rng, system, unit, store, side, plains in cases(82, 250, 60):
            for plain in plains:
                for plan in plain.plans():
                    found = corners_by(system, unit, store, side, plain.net.view, plan)
                    self.assertEqual(found, corners(plain.lots(plan)))
                    self.assertIs(type(found), list)

    def test_families_against_all_plans(self):
        for rng, system, unit, store, side, plains in cases(83, 250, 60):
            for plain in plains:
                found = families(system, unit, side, plain.net.view)
                self.assertEqual(len(found), plain.net.never)
                self.assertEqual(found[store], plain_family(plain))

    def test_sets_that_are_left_out(self):
        """A set is left out if it has all lots of another one, at its corners or as mixtures."""
        coin = "draw x 0 by 1 1 by 1"
        pick = "choose p2 c { set x = 0 } or d { set x = 1 }"
        pick_all = "choose p2 c { set x = 0 } or d { set x = 1 } or e { set x = 2 }"
        some = "choose p2 c { draw x 0 by 2 1 by 1 2 by 1 } or d { draw x 0 by 1 1 by 1 2 by 2 }"
        third = "draw x 0 by 1 1 by 1 2 by 1"
        for first, second, want in [(coin, pick, [[(1, 1, 0, 0)]]), (pick, coin, [[(1, 1, 0, 0)]]),
                                    ("set x = 1", pick, [[(0, 1, 0, 0)]]), (pick_all, pick, [[(0, 1, 0, 0), (1, 0, 0, 0)]]),
                                    (pick_all, some, [[(1, 1, 2, 0), (2, 1, 1, 0)]]), (third, pick_all, [[(1, 1, 1, 0)]]),
                                    (third, some, [[(1, 1, 1, 0)], [(1, 1, 2, 0), (2, 1, 1, 0)]]),
                                    (coin, some, [[(1, 1, 0, 0)], [(1, 1, 2, 0), (2, 1, 1, 0)]])]:
            system = text(f"unit game {{ choose p1 a {{ {first} }} or b {{ {second} }} }}")
            self.assertEqual(families(system, "game", (1,), "S")[2], want)
            other = text(f"unit game {{ choose p2 a {{ {first} }} or b {{ {second} }} }}".replace("choose p2 c", "choose p1 c"))
            self.assertEqual(families(other, "game", (1,), "T")[2], want)

    def test_never(self):
        stay = text("unit game { while x = 0 { choose p1 on { } or off { set x = 1 } } }")
        self.assertEqual(corners_by(stay, "game", 0, (1,), "S", (0,)), [(0, 0, 0, 1)])
        self.assertEqual(corners_by(stay, "game", 0, (1,), "S", (1,)), [(0, 1, 0, 0)])
        self.assertEqual(corners_by(stay, "game", 0, (), "S", ()), [(0, 0, 0, 1), (0, 1, 0, 0)])
        half = text("unit game { draw x 0 by 1 1 by 1 while x = 0 { if yes { } else { draw x 1 by 1 2 by 1 } } }")
        self.assertEqual(corners_by(half, "game", 2, (1,), "T", ()), [(0, 1, 0, 1)])
        again = text("unit game { while x = 0 { draw x 0 by 9 1 by 2 2 by 1 } }")
        self.assertEqual(corners_by(again, "game", 0, (), "S", ()), [(0, 2, 1, 0)])
        called = text("unit stay { while x = 0 { } } unit game { draw x 0 by 1 1 by 3 call stay }")
        self.assertEqual(corners_by(called, "game", 0, (), "S", ()), [(0, 3, 0, 1)])
        self.assertEqual(families(called, "stay", (), "T")[0], [[(0, 0, 0, 1)]])

    def test_rows_of_equal_moves(self):
        twice = text("unit game { choose p1 a { } or b { } choose p2 a { } or b { } }")
        self.assertEqual(corners_by(twice, "game", 1, (1,), "S", (1,)), [(0, 1, 0, 0)])
        self.assertEqual(families(twice, "game", (1,), "S"), [[[(1, 0, 0, 0)]], [[(0, 1, 0, 0)]], [[(0, 0, 1, 0)]]])
        for plan in [(), (0, 0), (2,), (-1,), [0], (True,), (Ratio(0),), None, 0, ((0,),)]:
            self.refused(InvalidPlan, [plan], corners_by, twice, "game", 1, (1,), "S", plan)

    def test_plans_that_keep_rows_from_being_met(self):
        nested = text("unit game { choose p1 a { choose p1 c { set x = 0 } or d { set x = 1 } } or b { set x = 2 } }")
        self.assertEqual([corners_by(nested, "game", 0, (1,), "S", plan)[0].index(1) for plan in
                          [(0, 0), (0, 1), (1, 0), (1, 1)]], [0, 1, 2, 2])
        for plan in [(1,), (1, 2), (1, 0, 0)]:
            self.refused(InvalidPlan, [plan], corners_by, nested, "game", 0, (1,), "S", plan)

    def test_many_corners(self):
        """A set of more than 64 corners, and one of more than 64 lots that are no corners."""
        toss = "choose p2 a { draw x 0 by 1 5 by 2 } or b { draw x 1 by 1 5 by 1 } or c { draw x 2 by 1 4 by 1 5 by 3 } "
        units = f"unit toss {{ {toss} }} unit game {{ call toss " + "if x = 5 { call toss } else { } " * 3 + "}"
        system = text(units, "name x 6")
        found = corners_by(system, "game", 0, (), "S", ())
        plain = Plain(web_over(system, "game", (), "S"), ((0,), 0))
        lots = plain.lots(())
        self.assertEqual(len(lots), 81)
        want = [lot for lot in lots if mixing([other for other in lots if other != lot], lot)[0] is None]
        self.assertEqual(found, want)
        self.assertEqual(families(system, "game", (), "S")[0], [found])
        draws = " ".join(f"if x = 5 {{ choose p2 a {{ draw x {at} by 1 5 by 1 }} or b {{ draw x {at + 1} by 1 5 by 2 }} }} else {{ }}"
                         for at in (0, 1, 2, 3))
        system = text(f"unit game {{ set x = 5 {draws} }}", "name x 6")
        found = corners_by(system, "game", 3, (), "S", ())
        self.assertEqual(found, corners(Plain(web_over(system, "game", (), "S"), ((1, 0, 0), 5)).lots(())))


class Bounds(Case):
    def test_rows(self):
        body = "choose p1 a { set x = 0 } or b { set x = 1 } " + "draw x 0 by 1 1 by 1 " * 11
        system = text("unit game { " + body + " if x = 0 { draw x 0 by 1 1 by 1 } else { } }")
        self.assertEqual(len(families(system, "game", (1,), "S")[0]), 1)
        value(system, "game", 0, (), [1, 2, 3, 4])
        system = text("unit game { " + body + " draw x 0 by 1 1 by 1 }")
        self.refused(TooMany, [25], families, system, "game", (1,), "S")
        for call, more in [(value, ()), (forced, ()), (held, ()), (is_forced, (3,)), (is_held, (3,))]:
            self.refused(TooMany, [25], call, system, "game", 0, (), [1, 2, 3, 4], *more)
        # The plan is looked at behind the rows.
        self.refused(TooMany, [25], corners_by, system, "game", 0, (), "S", None)
        outer = text("unit game { " + body + " draw x 0 by 1 1 by 1 } unit last { } unit top { call game }")
        self.refused(TooMany, [25], families, outer, "top", (1,), "S")
        self.assertEqual(families(outer, "last", (1,), "S")[2], [[(0, 0, 1, 0)]])

    def test_set_rows_are_left_out(self):
        toss = "unit toss { choose p1 a { } or b { set x = 1 } } "
        system = text(toss + "unit game { " + "call toss " * 11 + "}")
        self.assertEqual(value(system, "game", 0, (1,), [5, 1, 2, 3]), 5)
        self.assertEqual(value(system, "game", 0, (), [5, 1, 2, 3]), 1)
        deep = text(toss + "unit mid { " + "call toss " * 12 + "} unit game { call mid call toss call mid }")
        self.assertEqual(value(deep, "mid", 1, (), [5, 1, 2, 3]), 1)
        two = "if x = 0 { draw x 0 by 1 2 by 1 } else { } "
        wide = text(toss + "unit game { " + "call toss " * 12 + two + "}")
        self.assertEqual(value(wide, "game", 0, (), [5, 1, 2, 3]), 1)
        wide = text(toss + "unit game { " + "call toss " * 13 + two + "}")
        self.refused(TooMany, [26], value, wide, "game", 0, (), [5, 1, 2, 3])

    def test_responses(self):
        eight = "choose p1 a { } or b { } " * 8
        good = text("unit game { " + eight + "}")
        for view, side in [("S", (1,)), ("S", ()), ("T", ()), ("T", (1,))]:
            self.assertEqual(families(good, "game", side, view)[1], [[(0, 1, 0, 0)]])
        bad = text("unit game { " + eight + "choose p1 a { } or b { } }")
        three = "choose p1 a { } or b { } or c { } " * 5
        self.assertEqual(len(families(text("unit game { " + three + "}"), "game", (), "T")), 3)
        three = text("unit game { if x = 1 { " + three + "choose p1 a { } or b { } } else { } }")
        for view, side in [("S", (1,)), ("S", ()), ("T", ()), ("T", (1,))]:
            self.refused(TooMany, [257], families, bad, "game", side, view)
            self.refused(TooMany, [257], families, three, "game", side, view)
        self.assertEqual(corners_by(bad, "game", 0, (1,), "S", (1,) * 9), [(1, 0, 0, 0)])
        self.refused(TooMany, [257], corners_by, bad, "game", 0, (), "S", ())
        self.assertEqual(corners_by(good, "game", 0, (), "S", ()), [(1, 0, 0, 0)])
        self.assertEqual(value(bad, "game", 0, (1,), [1, 2, 3, 4]), 1)
        self.assertEqual(held(bad, "game", 0, (1,), [1, 2, 3, 4])[1], ())

    def test_alike_plans_count_once(self):
        """Of a chain that can be left at each row there are as many plans that are not alike as rows, and one more."""
        chain = "{ }"
        for _ in range(9):
            chain = "{ choose p1 go " + chain + " or stop { set x = 1 } }"
        system = text("unit game " + chain)
        self.assertEqual(families(system, "game", (1,), "S")[0], [[(0, 1, 0, 0)], [(1, 0, 0, 0)]])
        self.assertEqual(corners_by(system, "game", 0, (1,), "S", (0,) * 8 + (1,)), [(0, 1, 0, 0)])
        # Responses count as tuples for all rows that are met, also those that a response itself keeps from being met.
        self.refused(TooMany, [257], families, system, "game", (), "S")
        self.refused(TooMany, [257], corners_by, system, "game", 0, (), "S", ())

    def test_sum_over_plans(self):
        """Two plans with 128 responses each go, and one response more does not."""
        seven = "choose p2 a { } or b { } " * 7
        good = text("unit game { choose p1 a { " + seven + " } or b { " + seven + " } }")
        self.assertEqual(families(good, "game", (1,), "S")[0], [[(1, 0, 0, 0)]])
        bad = text("unit game { choose p1 a { " + seven + " } or b { " + seven + " } or c { } }")
        self.refused(TooMany, [257], families, bad, "game", (1,), "S")
        self.assertEqual(corners_by(bad, "game", 0, (1,), "S", (0,)), [(1, 0, 0, 0)])

    def test_too_great(self):
        part = "unit a { " + "if x = 1 { draw x 0 by 1 1 by 9 } else { } " * 10 + "} "
        four = "unit b { call a call a call a call a } "
        system = text(part + four, "name x 2")
        self.assertEqual(families(system, "b", (), "S")[1], [[(10 ** 40 - 9 ** 40, 9 ** 40, 0)]])
        just = text(part.replace("by 9", "by 10") + four, "name x 2")
        self.refused(TooGreat, ["b", 1], families, just, "b", (), "S")
        self.refused(TooGreat, ["b", 1], corners_by, just, "b", 1, (), "S", ())
        # Nine draws with 9 of 10 parts and one with 9 of 11, four times: the greatest integer is some 1.4 * 10 ** 40.
        near = text(part.replace("0 by 1", "0 by 2", 1) + four, "name x 2")
        self.assertLess(11 ** 4 * 10 ** 36 - 9 ** 40, 10 ** 41)
        self.refused(TooGreat, ["b", 1], families, near, "b", (), "S")
        more = part.replace("by 9", "by 12")
        for calls in (3, 4):
            system = text(more + "unit b { " + "call a " * calls + "} unit c { call b }", "name x 2")
            lot = (13 ** (10 * calls) - 12 ** (10 * calls), 12 ** (10 * calls), 0)
            if max(lot) < 10 ** 40:
                self.assertEqual(families(system, "c", (), "T")[1], [[lot]])
                self.assertEqual(corners_by(system, "b", 1, (), "T", ()), [lot])
            else:
                self.refused(TooGreat, ["b", 1], families, system, "b", (), "T")
                self.refused(TooGreat, ["b", 1], families, system, "c", (), "T")
                self.refused(TooGreat, ["b", 1], corners_by, system, "b", 1, (), "T", ())
                self.assertEqual(corners_by(system, "b", 0, (), "T", ()), [(1, 0, 0)])
                self.refused(TooGreat, ["b", 1], corners_by, system, "c", 0, (), "T", ())
                self.refused(TooGreat, ["b", 1], value, system, "c", 0, (), [1, 0, 0])
                self.assertEqual(fraction(value(system, "b", 1, (), [0, 1, 0])), Fraction(12, 13) ** 40)

    def test_too_great_that_is_no_corner(self):
        part = "unit a { " + "if x = 1 { draw x 0 by 1 1 by 12 } else { } " * 10 + "} "
        last = "unit b { choose p2 a { set x = 1 } or b { set x = 0 } or c { if x = 1 { call a call a call a call a } else { } } }"
        self.refused(TooGreat, ["b", 1], families, text(part + last, "name x 2"), "b", (), "S")
        self.refused(TooGreat, ["b", 1], corners_by, text(part + last, "name x 2"), "b", 1, (), "S", ())

    def test_too_rich(self):
        three = "choose p1 a { set x = %d } or b { draw x %d by 1 %d by 1 } or c { draw x %d by 1 %d by 2 } "
        nine = "choose p1 u { " + three % (0, 0, 1, 0, 1) + "} or v { " + three % (1, 1, 2, 1, 2) + "} or w { "
        nine += three % (2, 2, 0, 2, 0) + "} "
        ten = nine.replace("c { draw x 2 by 1 0 by 2 } ", "c { choose p1 a { draw x 2 by 1 0 by 2 } or b { draw x 0 by 1 1 by 5 } } ")
        for body, is_good in [(nine, True), (ten, False)]:
            system = text(f"unit toss {{ {body} }} unit game {{ call toss }}")
            self.assertEqual(len(families(system, "toss", (1,), "S")[0]), 9 if is_good else 10)
            if is_good:
                self.assertEqual(len(families(system, "game", (1,), "S")[0]), 9)
            else:
                self.refused(TooRich, ["toss", 0, (1,), 10], families, system, "game", (1,), "S")
                self.refused(TooRich, ["toss", 0, (), 10], families, system, "game", (), "T")
                self.assertEqual(families(system, "game", (), "S")[1], families(system, "toss", (), "S")[1])

    def test_too_long_sets(self):
        cube = "draw x 0 by 1 1 by 1 5 by 1 " + "".join(
            f"if x = {one} {{ choose p2 a {{ }} or b {{ set x = {other} }} }} else {{ }} " for one, other in [(0, 2), (1, 3), (5, 4)])
        wedge = "choose p2 a { draw x 0 by 1 5 by 1 } or b { draw x 1 by 1 5 by 1 } or c { draw x 2 by 1 5 by 1 } "
        wedge += "if x = 5 { choose p2 a { set x = 3 } or b { set x = 4 } or c { } } else { } "
        for body, count in [(cube, 8), (wedge, 9)]:
            system = text("unit toss { " + body + "} unit mid { call toss } unit game { call mid }", "name x 6")
            found = families(system, "toss", (), "S")
            self.assertEqual([len(lots) for lots in found[0]], [count])
            if count == 8:
                self.assertEqual(families(system, "game", (), "S"), found)
                self.assertEqual(value(system, "game", 0, (1,), [6, 5, 4, 3, 2, 1, 0]), Ratio(8, 3))
            else:
                self.refused(TooRich, ["toss", 0, (), 9], families, system, "mid", (), "S")
                self.refused(TooRich, ["toss", 0, (1,), 9], families, system, "game", (1,), "S")
                self.assertEqual(len(families(system, "toss", (), "T")[0]), 9)
                self.assertEqual(families(system, "game", (), "T"), families(system, "toss", (), "T"))

    def test_store_by_store(self):
        """What is too much at a lower store comes first, whatever it is; TooRich there too."""
        many = "choose p1 a { } or b { } " * 9
        rich = "choose p1 a { set x = 0 } or b { draw x 0 by 1 1 by 1 } or c { set x = 1 } "
        rich += "choose p1 a { } or b { draw x 2 by 1 3 by 1 } or c { set x = 4 } "
        for first, second in [(rich, many), (many, rich)]:
            units = f"unit toss {{ if x = 0 {{ {first} }} else {{ if x = 1 {{ {second} }} else {{ }} }} }} unit game {{ call toss }}"
            system = text(units, "name x 6")
            if first == many:
                self.refused(TooMany, [257], families, system, "game", (1,), "S")
            else:
                self.refused(TooRich, ["toss", 0, (1,), 10], families, system, "game", (1,), "S")
            self.refused(TooMany, [257], families, system, "toss", (1,), "S")

    def test_units_in_their_order(self):
        many = "choose p1 a { } or b { } " * 9
        rows = "choose p1 a { set x = 0 } or b { set x = 1 } " + "draw x 0 by 1 1 by 1 " * 12
        units = f"unit a {{ {many} }} unit b {{ {rows} }} unit c {{ call b }} unit d {{ call c call a }}"
        system = text(units)
        self.refused(TooMany, [257], families, system, "d", (1,), "S")
        self.refused(TooMany, [25], families, system, "c", (1,), "S")
        swapped = text(f"unit b {{ {rows} }} unit a {{ {many} }} unit c {{ call b }} unit d {{ call a call c }}")
        self.refused(TooMany, [25], families, swapped, "d", (1,), "S")
        self.refused(TooMany, [25], value, swapped, "d", 0, (1,), [1, 2, 3, 4])
        # A call counts also where no session comes.
        hidden = text(f"unit b {{ {rows} }} unit d {{ if not [yes] {{ call b }} else {{ }} }}")
        self.refused(TooMany, [25], families, hidden, "d", (1,), "S")
        self.refused(TooMany, [25], value, hidden, "d", 0, (1,), [1, 2, 3, 4])
        self.refused(TooMany, [25], is_forced, hidden, "d", 0, (1,), [1, 2, 3, 4], None)


class Asked(Case):
    def setUp(self):
        self.system = text("unit game { choose p1 a { } or b { set x = 1 } }")

    def calls(self):
        payoff = [1, 2, 3, 4]
        good = (self.system, "game", 0, (1,))
        return [(value, (*good, payoff)), (forced, (*good, payoff)), (held, (*good, payoff)),
                (is_forced, (*good, payoff, None)), (is_held, (*good, payoff, None)),
                (corners_by, (*good, "S", (0,)))]

    def test_order(self):
        unfair = (2, (("x", 3),), (("game", (("call", "game"),)),))
        bad = [9, "gam", 3, (3,), [1, 2, 3]]
        for call, args in self.calls():
            given = list(args)
            wrong = [*bad[:4], "X" if call is corners_by else bad[4]]
            errors = [InvalidSystem, InvalidUnit, InvalidStore, InvalidSide,
                      InvalidView if call is corners_by else InvalidPayoff]
            for at in range(5):
                self.refused(errors[at], [wrong[at]], call, *given[:at], *wrong[at:], *given[5:])
            self.refused(NotFair, ["call", "game", "game"], call, unfair, *wrong[1:], *given[5:])
        self.refused(InvalidUnit, ["gam"], families, self.system, "gam", 3, 4)
        self.refused(InvalidSide, [3], families, self.system, "game", 3, 4)
        self.refused(InvalidView, [4], families, self.system, "game", (), 4)
        self.refused(InvalidSystem, [4], families, 4, "game", (), 4)

    def test_any_values(self):
        for call, args in self.calls():
            for wrong in strange():
                self.refused(InvalidUnit, [wrong], call, args[0], wrong, *args[2:])
                self.refused(InvalidStore, [wrong], call, *args[:2], wrong, *args[3:])
                if wrong != ():
                    self.refused(InvalidSide, [wrong], call, *args[:3], wrong, *args[4:])
                error = InvalidView if call is corners_by else InvalidPayoff
                self.refused(error, [wrong], call, *args[:4], wrong, *args[5:])
            for wrong in ([1, 2, 3], [1, 2, 3, 4, 5], [1, 2, 3, True], [1, 2, 3, Ratio(4)], [1, 2, 3, "4"], {0: 1}):
                if call is not corners_by:
                    self.refused(InvalidPayoff, [wrong], call, *args[:4], wrong, *args[5:])
        for wrong in strange():
            self.refused(InvalidPlan, [wrong], corners_by, self.system, "game", 0, (1,), "S", wrong)
            self.refused(InvalidView, [wrong], families, self.system, "game", (1,), wrong)

    def test_ways_to_pass(self):
        named = dict(system=self.system, unit="game", store=0, side=(1,), payoff=(1, 2, 3, 4))
        self.assertEqual(value(**named), 2)
        self.assertIs(type(value(**named)), Ratio)
        for call, judge in [(forced, is_forced), (held, is_held)]:
            paper = call(**named)
            self.assertEqual(paper, call(*named.values()))
            self.assertIs(judge(**named, value=paper), True)
            paper[2].clear()
            paper[3].append(7)
            self.assertEqual(len(call(**named)[2]), 1)
        found = families(system=self.system, unit="game", side=(1,), view="S")
        found[0][0].clear()
        found[1].clear()
        self.assertEqual(families(self.system, "game", (1,), "S")[0], [[(0, 1, 0, 0)], [(1, 0, 0, 0)]])
        found = corners_by(system=self.system, unit="game", store=0, side=(1,), view="S", plan=(0,))
        found.clear()
        self.assertEqual(corners_by(self.system, "game", 0, (1,), "S", (0,)), [(1, 0, 0, 0)])

    def test_new_lists_within(self):
        same = families(text("unit game { set x = 1 }"), "game", (), "S")
        self.assertEqual(len({id(item) for item in same} | {id(item[0]) for item in same}), 6)


def judged(plain, payoff, sign, paper):
    """Whether a paper of the right form is right, by the words of the document, with Python's own fractions."""
    number, plan, table, ranks = paper
    worths = {row: sign * fraction(item) for row, item in table}
    counts = {row: fraction(item) for row, item in ranks}
    for outcome, item in enumerate(payoff):
        worths[outcome], counts[outcome] = Fraction(sign * item), Fraction(0)
    picks = dict(zip(plain.own, plan))
    if min(list(counts.values())) < 0 or sign * fraction(number) != worths[plain.place]:
        return False
    mine = OWN[plain.net.view]
    for row in plain.rows:
        moves = plain.moves[row]
        if plain.net.owner(row) == mine and row in picks:
            moves = [moves[picks[row]]]
        for move in moves:
            whole = sum(weight for _, weight in move)
            ahead = sum(weight * worths[place] for place, weight in move) / whole - worths[row]
            behind = sum(weight * counts[place] for place, weight in move) / whole
            cost = 1 if worths[row] > worths[plain.net.never] else 0
            if not (ahead > 0 or (ahead == 0 and counts[row] >= behind + cost)):
                return False
    return True


class Values(Case):
    def test_against_all_plans(self):
        for rng, system, unit, store, side, plains in cases(85, 350):
            payoff = [rng.randint(-4, 4) for _ in range(plains[0].net.never + 1)]
            best = []
            for plain, pick, other in zip(plains, (max, min), (min, max)):
                best.append(pick(other(mean_of(lot, payoff) for lot in plain.lots(plan)) for plan in plain.plans()))
            self.assertEqual(best[0], best[1])
            self.assertEqual(fraction(value(system, unit, store, side, payoff)), best[0])
            for plain, sign, call, judge in zip(plains, (1, -1), (forced, held), (is_forced, is_held)):
                paper = call(system, unit, store, side, payoff)
                self.assertEqual(fraction(paper[0]), best[0])
                self.assertEqual([row for row, _ in paper[2]], plain.rows)
                self.assertEqual([row for row, _ in paper[3]], plain.rows)
                self.assert_ratios([paper[0], *[item for _, item in paper[2] + paper[3]]] if plain.rows else [paper[0]])
                self.assertIn(paper[1], plain.plans())
                self.assertTrue(judged(plain, payoff, sign, paper))
                self.assertIs(judge(system, unit, store, side, payoff, paper), True)
                self.spoil(rng, plain, payoff, sign, paper, lambda one: judge(system, unit, store, side, payoff, one))
                # What a paper tells is true: against its plan no response brings less, or more.
                lots = plain.lots(paper[1])
                means = [mean_of(lot, payoff) * sign for lot in lots]
                self.assertEqual(min(means), best[0] * sign)

    def spoil(self, rng, plain, payoff, sign, paper, judge):
        """Changes one thing; the judge then tells what the words of the document tell."""
        number, plan, table, ranks = paper
        for _ in range(4):
            changed = [list(table), list(ranks)]
            if table:
                which, at = rng.randrange(2), rng.randrange(len(table))
                row, item = changed[which][at]
                step = rng.choice([1, -1, Ratio(1, 7), Ratio(-1, 10 ** 9)])
                changed[which][at] = (row, item + step)
                one = (number, plan, *changed)
                self.assertIs(judge(one), judged(plain, payoff, sign, one))
                if which == 0 and plain.place == row:
                    one = (number + step, plan, *changed)
                    self.assertIs(judge(one), judged(plain, payoff, sign, one))
            if plan:
                at = rng.randrange(len(plan))
                index = rng.randrange(len(plain.moves[plain.own[at]]))
                one = (number, (*plan[:at], index, *plan[at + 1:]), table, ranks)
                self.assertIs(judge(one), judged(plain, payoff, sign, one))
        self.assertIs(judge((number + sign, plan, table, ranks)), False)

    def test_less_than_the_value(self):
        """A paper with another plan shows a lesser number, and ranks that are greater than they need be do, too."""
        system = text("unit game { choose p1 a { set x = 0 } or b { set x = 1 } }")
        row = ((0,), 2)
        for plan, number in [((0,), 5), ((1,), 7)]:
            for rank in (1, 2, Ratio(3, 2)):
                paper = (number, plan, [(row, number)], [(row, rank)])
                self.assertIs(is_forced(system, "game", 2, (1,), [5, 7, 1, 0], paper), True)
                self.assertIs(is_held(system, "game", 2, (1,), [5, 7, 1, 0], (number, (), *paper[2:])), number == 7)
        self.assertIs(is_forced(system, "game", 2, (1,), [5, 7, 1, 0], (7, (1,), [(row, 7)], [(row, 0)])), False)
        self.assertIs(is_forced(system, "game", 2, (1,), [5, 7, 1, 7], (7, (1,), [(row, 7)], [(row, 0)])), True)
        self.assertIs(is_forced(system, "game", 2, (1,), [5, 7, 1, 7], (6, (1,), [(row, 6)], [(row, 0)])), True)

    def test_outcomes(self):
        system = text("unit game { set x = 1 }")
        for call, judge in [(forced, is_forced), (held, is_held)]:
            self.assertEqual(call(system, "game", 2, (), [3, 8, 1, 9]), (Ratio(8), (), [], []))
            self.assertIs(judge(system, "game", 2, (), [3, 8, 1, 9], (8, (), (), [])), True)
            for wrong in [(7, (), [], []), (8, (0,), [], []), (8, [], [], []), (True, (), [], []), [8, (), [], []],
                          (8, (), [], [], []), (8, (), [], {}), (8, (), [()], []), (8, (), None, [])]:
                self.assertIs(judge(system, "game", 2, (), [3, 8, 1, 9], wrong), False)

    def test_any_values(self):
        system = text("unit game { choose p1 a { while x = 1 { choose p2 a { } or b { set x = 2 } } } or b { set x = 0 } }")
        payoff = [1, 0, 2, -1]
        for call, judge in [(forced, is_forced), (held, is_held)]:
            paper = call(system, "game", 1, (1,), payoff)
            args = (system, "game", 1, (1,), payoff)
            self.assertIs(judge(*args, paper), True)
            self.assertIs(judge(*args, (paper[0], paper[1], tuple(paper[2]), tuple(paper[3]))), True)
            self.assertIs(judge(*args, (*paper[:2], [list(item) for item in paper[2]], paper[3])), False)
            self.assertIs(judge(*args, (*paper[:2], paper[2][::-1], paper[3])), False)
            self.assertIs(judge(*args, (*paper[:2], paper[2][1:], paper[3])), False)
            self.assertIs(judge(*args, (*paper[:3], paper[3] + paper[3][-1:])), False)
            self.assertIs(judge(*args, list(paper)), False)
            self.assertIs(judge(*args, (*paper[:1], list(paper[1]), *paper[2:])), False)
            for wrong in strange():
                self.assertIs(judge(*args, wrong), False)
                for at in range(4):
                    self.assertIs(judge(*args, (*paper[:at], wrong, *paper[at + 1:])), False)
                for at in (2, 3):
                    for item in (wrong, (wrong, 1), (paper[2][0][0], wrong)):
                        if wrong in (10 ** 3999, -1, Ratio(1, 2), Ratio(-7)) and item != wrong and item[1] == wrong:
                            continue
                        one = [item, *paper[at][1:]]
                        self.assertIs(judge(*args, (*paper[:at], one, *paper[at + 1:])), False)
            # Two rows that change their names.
            names = [row for row, _ in paper[2]]
            names[0], names[1] = names[1], names[0]
            for at in (2, 3):
                one = [(row, number) for row, (_, number) in zip(names, paper[at])]
                self.assertIs(judge(*args, (*paper[:at], one, *paper[at + 1:])), False)
            row = paper[2][0][0]
            for wrong in [((False,), 1), (row[0], True), (list(row[0]), 1), [*row], ((Ratio(0),), 1), (row[0], Ratio(1))]:
                one = [(wrong, paper[2][0][1]), *paper[2][1:]]
                self.assertIs(judge(*args, (*paper[:2], one, paper[3])), False)

    def test_integers_for_ratios(self):
        system = text("unit game { choose p1 a { set x = 0 } or b { set x = 1 } }")
        paper = forced(system, "game", 0, (1,), [5, 7, 1, 0])
        whole = (7, paper[1], [(row, 7) for row, _ in paper[2]], [(row, 1) for row, _ in paper[3]])
        self.assertIs(is_forced(system, "game", 0, (1,), [5, 7, 1, 0], whole), True)
        self.assertIs(is_forced(system, "game", 0, (1,), [5, 7, 1, 0], (7, (Ratio(1),), *whole[2:])), False)
        self.assertIs(is_forced(system, "game", 0, (1,), [5, 7, 1, 0], (7, (True,), *whole[2:])), False)

    def test_loops_of_both(self):
        """The side would go on for ever rather than lose, and the enemy rather than let it win."""
        body = "while x < 2 { choose p1 a { set x = 1 - x } or b { choose p2 c { set x = 1 - x } or d { set x = 2 } } }"
        system = text("unit game { " + body + " }")
        for payoff, want in [([0, 0, 5, 0], 0), ([0, 0, -5, 0], 0), ([0, 0, 5, 7], 7), ([0, 0, 5, -7], -7), ([0, 0, 0, 0], 0)]:
            self.assertEqual(value(system, "game", 0, (1,), payoff), want)
        alone = {(1, 2): max, (): min}
        for side, pick in alone.items():
            for payoff in ([0, 0, 5, 0], [0, 0, -5, 0], [0, 0, 5, 7]):
                self.assertEqual(value(system, "game", 1, side, payoff), pick(payoff[2], payoff[3]))

    def test_small_chances(self):
        """A loop that is left with a chance of one in 25 ** 8 each time is left all the same."""
        draws = "".join("if x = 1 { draw x 1 by 1 0 by 12 2 by 12 } else { } " for _ in range(4))
        body = "while x < 3 { choose p1 go { set x = 1 " + draws + "if x = 1 { set x = 3 } else { set x = 0 } } or stop { set x = 4 } }"
        system = text("unit game { " + body + " }", "name x 5")
        self.assertEqual(value(system, "game", 0, (1,), [0, 0, 0, 10 ** 30, 10 ** 30 - 1, 0]), 10 ** 30)
        self.assertEqual(value(system, "game", 0, (1,), [0, 0, 0, 10 ** 59, 10 ** 59 + 1, 0]), 10 ** 59 + 1)
        self.assertEqual(value(system, "game", 0, (), [0, 0, 0, 10 ** 59, 10 ** 59 - 1, 10 ** 59]), 10 ** 59 - 1)
        for call, judge in [(forced, is_forced), (held, is_held)]:
            paper = call(system, "game", 0, (1,), [0, 0, 0, 10 ** 59, 10 ** 59 - 1, 0])
            self.assertIs(judge(system, "game", 0, (1,), [0, 0, 0, 10 ** 59, 10 ** 59 - 1, 0], paper), True)

    def test_slow_wins(self):
        """What is won only behind some 25 ** 18 rounds is won, so the enemy stays where it is rather than let it come."""
        slow = "unit slow { " + "if x = 1 { draw x 1 by 1 0 by 12 2 by 12 } else { } " * 9 + "} "
        again = "if x = 1 { call slow if x = 1 { set x = 5 } else { set x = 0 } } else { set x = 0 } "
        body = "while x = 3 { choose p2 stay { } or go { draw x 0 by 1 4 by 1 } } "
        body += "while x < 3 { choose p1 a { set x = 1 } or b { set x = 1 } call slow " + again + "} "
        system = text(slow + "unit game { " + body + "}", "name x 6")
        for great in (1, 1000, 10 ** 58):
            for payoff, want in [([0, 0, 0, 0, -great, great + 2, 0], 0), ([0, 0, 0, 0, -great - 2, great, 0], -1)]:
                self.assertEqual(value(system, "game", 3, (1,), payoff), want)
                self.assertEqual(value(system, "game", 3, (2,), [-item for item in payoff]), -want)
                for side, items in [((1,), payoff), ((2,), [-item for item in payoff])]:
                    for call, judge in [(forced, is_forced), (held, is_held)]:
                        self.assertIs(judge(system, "game", 3, side, items, call(system, "game", 3, side, items)), True)

    def test_great_games(self):
        """Twenty-four rows of both, with loops, against the judges of both."""
        rng = random.Random(24)
        count = 0
        while count < 40:
            rows = []
            for at in range(2):
                who = rng.choice(["p1", "p2", "net"])
                sets = [rng.randrange(6) for _ in range(3)]
                rows.append(f"choose {who} a {{ set x = x + {sets[0]} }} or b {{ draw x {sets[1]} by 1 "
                            f"{(sets[1] + 1) % 6} by 5 }} or c {{ set x = {sets[2]} }}")
            system = text("unit game { while x < 4 { " + " ".join(rows) + " } }", "name x 6")
            payoff = [0, 0, 0, 0, 0, rng.choice([3, -3]), 0]
            try:
                papers = [call(system, "game", 0, (1,), payoff) for call in (forced, held)]
            except TooMany:
                continue
            count += 1
            self.assertEqual(papers[0][0], papers[1][0])
            self.assertIs(is_forced(system, "game", 0, (1,), payoff, papers[0]), True)
            self.assertIs(is_held(system, "game", 0, (1,), payoff, papers[1]), True)


def spliced(body, bodies):
    """A body with the statements of called units in the place of calls."""
    found = []
    for statement in body:
        kind = statement[0]
        if kind == "call":
            found.extend(spliced(bodies[statement[1]], bodies))
            continue
        if kind == "choose":
            statement = (*statement[:2], tuple((label, spliced(inner, bodies)) for label, inner in statement[2]))
        elif kind in ("if", "while"):
            statement = (*statement[:2], *[spliced(inner, bodies) for inner in statement[2:]])
        found.append(statement)
    return tuple(found)


class Follows(Case):
    def systems(self, seed, count):
        rng = random.Random(seed)
        for _ in range(count):
            system = small_system(rng, many=rng.randint(1, 3))
            unit = rng.choice(unit_names(system))
            store = rng.randrange(len(space_of(system)))
            yield rng, system, unit, store, rng.choice(sides(system[0]))

    def test_calls_and_their_bodies(self):
        count = 0
        for rng, system, unit, store, side in self.systems(89, 2500):
            body = dict(system[2])[unit]
            whole = spliced(body, dict(system[2]))
            other = quiet(with_body, system, unit, whole)
            if other is None or whole == body:
                continue
            payoff = [rng.randint(-4, 4) for _ in range(len(space_of(system)) + 1)]
            found = [quiet(value, one, unit, store, side, payoff) for one in (system, other)]
            if None not in found:
                count += 1
                self.assertEqual(*found)
        self.assertGreater(count, 150)

    def test_larger_sides_and_payoffs(self):
        for rng, system, unit, store, side in self.systems(891, 300):
            payoff = [rng.randint(-4, 4) for _ in range(len(space_of(system)) + 1)]
            found = quiet(value, system, unit, store, side, payoff)
            if found is None:
                continue
            for other in larger(side, system[0]):
                more = quiet(value, system, unit, store, other, payoff)
                self.assertFalse(more is not None and more.below(found))
            by, more = rng.randint(0, 5), rng.randint(-9, 9)
            self.assertEqual(value(system, unit, store, side, [item * by + more for item in payoff]), found * by + more)

    def test_the_rest(self):
        count = 0
        for rng, system, unit, store, side in self.systems(892, 1500):
            if "spin" in str(system) or "'choose', 0" in str(system):
                continue
            other = rest(side, system[0])
            found = quiet(families, system, unit, side, "T")
            if found is not None:
                count += 1
                self.assertEqual(families(system, unit, other, "S"), found)
            payoff = [rng.randint(-4, 4) for _ in range(len(space_of(system)) + 1)]
            found = quiet(value, system, unit, store, side, payoff)
            if found is not None:
                self.assertEqual(value(system, unit, store, other, [-item for item in payoff]), -found)
        self.assertGreater(count, 150)

    def test_families_force_the_value(self):
        for rng, system, unit, store, side in self.systems(893, 250):
            payoff = [rng.randint(-4, 4) for _ in range(len(space_of(system)) + 1)]
            found = [quiet(families, system, unit, side, view) for view in "ST"]
            if None in found:
                continue
            number = fraction(value(system, unit, store, side, payoff))
            self.assertEqual(number, max(min(mean_of(lot, payoff) for lot in lots) for lots in found[0][store]))
            self.assertEqual(number, min(max(mean_of(lot, payoff) for lot in lots) for lots in found[1][store]))


if __name__ == "__main__":
    unittest.main()

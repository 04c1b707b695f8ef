"""Tests of evenpatch.webs."""

import random
import unittest
from itertools import combinations

from helpers import Case, some_lot, strange
from second import any_answer, of_system, small_system
from systems import some_system

from evenpatch.checks import calls_of, space_of, statements, unit_names
from evenpatch.errors import (InvalidFamilies, InvalidRow, InvalidSide, InvalidStore, InvalidSystem, InvalidUnit,
                              InvalidView, NotFair, TooMany)
from evenpatch.parties import larger, rest, sides
from evenpatch.ratios import Ratio
from evenpatch.texts import read_system
from evenpatch.webs import Web, web

HEAD = "parties 3 name x 3 "
SURE = [(1, 0, 0, 0), (0, 1, 0, 0), (0, 0, 1, 0), (0, 0, 0, 1)]


def one(body, side=(1,), view="S", head=HEAD):
    return web(read_system(f"{head} unit game {{ {body} }}"), "game", side, {}, view)


def some_family(rng, many):
    """An ascending list of different sets of lots on so many outcomes."""
    sets = set()
    for _ in range(rng.randint(1, 3)):
        sets.add(tuple(sorted({some_lot(rng, many, 3) for _ in range(rng.randint(1, 3))})))
    return [list(lots) for lots in sorted(sets)]


def some_families(rng, system, unit):
    many = len(space_of(system)) + 1
    return {name: [some_family(rng, many) for _ in range(many - 1)] for name in calls_of(system, unit)}


def all_rows(net, system, unit):
    """All rows, found by asking for each path with each store and some indices."""
    found = []
    for path, _ in statements(system, unit):
        for store in range(net.never):
            found.extend(row for row in [(path, store), *[(path, store, index) for index in range(10)]]
                         if net.is_row(row))
    return sorted(found)


class Rows(Case):
    def test_which_rows(self):
        body = "set x = 1 if x = 1 { draw x 0 by 1 1 by 1 } else { spin p2 x 0 by 1 1 by 1 } while x < 2 { choose p1 a { } or b { } }"
        net = one(body)
        for store in range(3):
            for path in [(1, 0, 0), (1, 1, 0), (2, 0, 0)]:
                self.assertIs(net.is_row((path, store)), True)
            self.assertIs(net.is_row(((2,), store)), store < 2)
            for path in [(0,), (1,), (1, 0), (1, 0, 1), (2, 0), (3,), (), (2, 1, 0), (-1,), (1, 0, 0, 0)]:
                self.assertIs(net.is_row((path, store)), False)
        row = ((1, 0, 0), 0)
        for value in [*strange(), [*row], ([1, 0, 0], 0), ((1, 0, 0), 3), ((1, 0, 0), -1), ((1, 0, 0), False),
                      ((True, 0, 0), 0), ((1, False, 0), 0), ((1, 0, 0), Ratio(0)), ((Ratio(1), 0, 0), 0), ((1, 0, 0),),
                      ((1, 0, 0), 0, 0), ((1, 0, 0), 0, 0, 0), ((1, 0, [0]), 0), ((1, 0, 0), [0]), ((1, 0, 0), None), 0]:
            self.assertIs(net.is_row(value), False)
            if value != 0 or isinstance(value, bool):
                self.refused(InvalidRow, [value], net.owner, value)
                self.refused(InvalidRow, [value], net.moves, value)
                self.refused(InvalidRow, [value], net.behind, value, -1)
                self.refused(InvalidRow, [value], net.rows_from, value)
                self.refused(InvalidRow, [value], net.frame_rows, value)
        self.refused(InvalidRow, [row], net.behind, row, 0)
        self.assertEqual([net.rows_from(store) + net.frame_rows(store) for store in range(4)], [[]] * 4)
        for value in [4, -1, True, Ratio(0)]:
            self.refused(InvalidRow, [value], net.rows_from, value)
            self.refused(InvalidRow, [value], net.frame_rows, value)

    def test_set_rows(self):
        system = read_system(HEAD + "unit toss { } unit game { call toss }")
        family = [[SURE[3:], SURE[2:3]], [SURE[1:2]], [[SURE[2], SURE[0]]]]
        family = [sorted(sorted(lots) for lots in one) for one in family]
        net = web(system, "game", (), {"toss": family}, "S")
        rows = [((0,), 0), ((0,), 0, 0), ((0,), 0, 1), ((0,), 1), ((0,), 1, 0), ((0,), 2), ((0,), 2, 0)]
        self.assertEqual(all_rows(net, system, "game"), rows)
        for value in [((0,), 0, 2), ((0,), 0, -1), ((0,), 0, False), ((0,), 0, None), ((0,), 3, 0), ((0,), 0, Ratio(1)),
                      ((0,), 0, 0, 0), [(0,), 0, 0], ([0], 0, 0)]:
            self.assertIs(net.is_row(value), False)
        self.assertEqual(net.moves(((0,), 0)), [[(((0,), 0, 0), 1)], [(((0,), 0, 1), 1)]])
        self.assertEqual(net.moves(((0,), 0, 0)), [[(3, 1)]])
        self.assertEqual(net.moves(((0,), 2, 0)), [[(2, 1)], [(0, 1)]])
        for row in rows:
            if len(row) == 3:
                self.refused(InvalidRow, [row], net.behind, row, 0)
        for value in [4, -1, True, None, Ratio(0), "0"]:
            self.refused(InvalidStore, [value], net.behind, rows[0], value)
        self.assertEqual([net.behind(rows[0], outcome) for outcome in range(4)], [0, 1, 2, 3])

    def test_first(self):
        net = one("set x = x + 1 if x = 0 { } else { while x = 1 { } }")
        self.assertEqual([net.first(store) for store in range(3)], [((1, 1, 0), 1), 2, 0])
        for value in [*strange(), 3, Ratio(0)]:
            self.refused(InvalidStore, [value], net.first, value)


class Moves(Case):
    def test_wheels(self):
        net = one("draw x 2 by 6 0 by 3 1 by 3 if x = 1 { set x = 2 } else { }")
        self.assertEqual([net.owner(((0,), 1)), net.moves(((0,), 1))], ["wheel", [[(0, 1), (2, 3)]]])
        self.assertEqual(one("draw x 0 by 12 1 by 9").moves(((0,), 0)), [[(0, 4), (1, 3)]])
        spin = "spin p2 x 2 by 6 0 by 3 1 by 3 if x = 1 { set x = 2 } else { }"
        self.assertEqual([one(spin, (2, 3)).owner(((0,), 0)), one(spin, (2,)).moves(((0,), 0))],
                         ["wheel", [[(0, 1), (2, 3)]]])
        self.assertEqual([one(spin).owner(((0,), 0)), one(spin).moves(((0,), 0))], ["B", [[(2, 1)], [(0, 1)], [(2, 1)]]])

    def test_places_are_ordered(self):
        net = one("draw x 2 by 1 0 by 2 1 by 3 while x < 2 { set x = 2 }")
        self.assertEqual(net.moves(((0,), 0)), [[(2, 1), (((1,), 0), 2), (((1,), 1), 3)]])

    def test_chooses(self):
        body = "choose p1 a { } or b { set x = 2 } or c { draw x 0 by 1 1 by 1 }"
        for who, owners in [("p1", ["B", "A", "A"]), ("p3", ["B", "B", "A"]), ("net", ["B", "B", "B"])]:
            for side, owner in zip([(), (1,), (1, 3)], owners):
                net = one(body.replace("p1", who), side)
                self.assertEqual(net.owner(((0,), 1)), owner)
                self.assertEqual(net.moves(((0,), 1)), [[(1, 1)], [(2, 1)], [(((0, 2, 0), 1), 1)]])
        twice = one("choose p1 a { } or b { }")
        self.assertEqual(twice.moves(((0,), 0)), [[(0, 1)], [(0, 1)]])

    def test_loops(self):
        net = one("while x < 2 { } set x = 0")
        self.assertEqual([net.owner(((0,), 1)), net.moves(((0,), 1))], ["wheel", [[(((0,), 1), 1)]]])
        self.assertEqual(one("while x < 2 { set x = x + 1 } set x = 0").moves(((0,), 1)), [[(0, 1)]])

    def test_views(self):
        system = read_system(HEAD + "unit toss { } unit game { call toss set x = x + 1 }")
        family = [[[(0, 0, 1, 1), (1, 1, 2, 0)], [(0, 1, 0, 0)]]] * 3
        row = ((0,), 0)
        for view, owners in [("S", ["A", "B"]), ("T", ["B", "A"])]:
            net = web(system, "game", (1,), {"toss": family}, view)
            self.assertEqual([net.owner(row), net.owner((*row, 0))], owners)
            self.assertEqual(net.moves((*row, 0)), [[(0, 1), (3, 1)], [(0, 2), (1, 1), (2, 1)]])
            self.assertEqual(net.moves((*row, 1)), [[(2, 1)]])
            self.assertEqual([net.behind(row, outcome) for outcome in range(4)], [1, 2, 0, 3])
            self.assertEqual([net.view, net.side, net.never], [view, (1,), 3])

    def test_loop_behind_a_call(self):
        system = read_system(HEAD + "unit toss { } unit game { while x < 2 { call toss } }")
        net = web(system, "game", (1,), {"toss": [[SURE[3:]]] * 3}, "S")
        call = ((0, 0, 0), 1)
        self.assertEqual([net.behind(call, outcome) for outcome in range(4)], [((0,), 0), ((0,), 1), 2, 3])
        self.assertEqual(net.rows_from(call), [call, (*call, 0)])
        self.assertEqual([len(net.frame_rows(call)), len(net.frame_rows(((0,), 0)))], [6, 6])
        self.assertEqual(net.frame_rows(call)[:2], [((0,), 0), ((0,), 1)])
        self.assertEqual(net.frame_rows((*call, 0)), net.frame_rows(call))

    def test_new_lists(self):
        net = one("choose p1 a { } or b { }")
        row = ((0,), 0)
        net.moves(row)[0].clear()
        net.moves(row).clear()
        net.rows_from(row).clear()
        net.frame_rows(row).clear()
        self.assertEqual([net.moves(row), net.rows_from(row), net.frame_rows(row)], [[[(0, 1)], [(0, 1)]], [row], [row]])


class Bounds(Case):
    def test_too_many(self):
        # Twelve chooses at two stores behind a choose of the store are 24 rows and one more.
        body = "choose p1 a { set x = 0 } or b { set x = 1 } " + "choose p2 a { } or b { } " * 12
        net = one(body)
        self.refused(TooMany, [25], net.rows_from, ((0,), 0))
        self.refused(TooMany, [25], net.frame_rows, ((0,), 2))
        self.assertEqual(len(net.rows_from(((1,), 0))), 12)
        net = one(body.replace("p2", "p3")[:-len("choose p2 a { } or b { } ")] + "if x = 1 { choose p2 a { } or b { } } else { }")
        self.assertEqual(len(net.rows_from(((0,), 0))), 24)
        self.assertEqual(len(net.frame_rows(((0,), 0))), 24)

    def test_set_rows_are_not_counted(self):
        system = read_system(HEAD + "unit toss { } unit game { " + "call toss " * 20 + " }")
        sets = [[lot] for lot in sorted([(1, 0, 0, item) for item in range(9)])]
        net = web(system, "game", (1,), {"toss": [sets] * 3}, "S")
        self.assertEqual(len(net.rows_from(((0,), 0))), 200)
        self.refused(TooMany, [58], net.frame_rows, ((0,), 0))
        self.assertEqual(len([row for row in net.frame_rows(((13,), 0)) if len(row) == 2]), 19)
        self.refused(TooMany, [25], net.frame_rows, ((11,), 1))


class Asked(Case):
    def setUp(self):
        self.system = read_system("parties 2 name x 2 unit toss { } unit mid { call toss } unit game { call toss call mid }")
        self.good = {"toss": [[[(1, 0, 0)]], [[(0, 1, 0)]]], "mid": [[[(0, 1, 1), (1, 0, 0)]], [[(0, 0, 1)], [(1, 1, 0)]]]}

    def test_order(self):
        self.refused(InvalidSystem, [5], web, 5, 1, 2, 3, 4)
        self.refused(NotFair, ["twice", None, "x"], web, (2, (("x", 2),), (("x", ()),)), 1, 2, 3, 4)
        self.refused(InvalidUnit, [1], web, self.system, 1, 2, 3, 4)
        self.refused(InvalidSide, [2], web, self.system, "game", 2, 3, 4)
        self.refused(InvalidFamilies, [3], web, self.system, "game", (), 3, 4)
        self.refused(InvalidView, [4], web, self.system, "game", (), self.good, 4)

    def test_units_sides_and_views(self):
        for value in [*strange(), "x", "gam", ["game"]]:
            self.refused(InvalidUnit, [value], web, self.system, value, (), {}, "S")
        for value in [*[value for value in strange() if value != ()], (3,), (2, 1), (1, 1), [1], (True,), (0, 1), 1]:
            self.refused(InvalidSide, [value], web, self.system, "toss", value, {}, "S")
        for value in [*strange(), "s", "ST", ["S"], ("T",)]:
            self.refused(InvalidView, [value], web, self.system, "toss", (), {}, value)

    def bad(self, families):
        self.refused(InvalidFamilies, [families], web, self.system, "game", (), families, "S")

    def test_families(self):
        self.assertIsInstance(web(self.system, "game", (), self.good, "S"), Web)
        for value in strange():
            if not isinstance(value, dict):
                self.bad(value)
                self.refused(InvalidFamilies, [value], web, self.system, "toss", (), value, "S")
            self.bad({"toss": self.good["toss"], "mid": value})
            self.bad({**self.good, "toss": [[[(1, 0, 0)]], value]})
            self.bad({**self.good, "toss": [value, [[(1, 0, 0)]]]})
            self.bad({**self.good, "toss": [[value], [[(1, 0, 0)]]]})
            self.bad({**self.good, "toss": [[[value]], [[(1, 0, 0)]]]})
            if value != 10 ** 3999:
                self.bad({**self.good, "toss": [[[(1, value, 0)]], [[(1, 0, 0)]]]})
        self.bad({"toss": self.good["toss"]})
        sure, other = (0, 1, 0), (1, 0, 0)
        for sets in [[], [[]], [[other, sure]], [[sure, sure]], [[other], [sure]], [[sure], [sure]], [[sure], [sure, other], [other], []],
                     [[(0, 2, 0)]], [[(0, 0, 0)]], [[(0, 1)]], [[(0, 1, 0, 0)]], [[[0, 1, 0]]], [[(-1, 2, 0)]], [sure], sure,
                     [[sure, other], [sure]], [[(True, 0, 0)]], [[(Ratio(1), 0, 0)]], {0: 1}]:
            self.bad({**self.good, "toss": [sets, [[other]]]})
            self.bad({**self.good, "mid": [[[other]], sets]})
        self.bad({**self.good, "toss": [[[sure]]]})
        self.bad({**self.good, "toss": [[[sure]]] * 3})

    def test_bounds(self):
        lots = sorted([(1, 0, item) for item in range(9)])
        sets = [[lot] for lot in lots]
        for family in [[lots[:8]], sets, [lots[:8], *[lots[at:] for at in range(1, 9)]]]:
            net = web(self.system, "mid", (), {"toss": [family, family]}, "T")
            self.assertEqual(len(net.moves(((0,), 0))), len(family))
            self.assertEqual(len(net.moves(((0,), 1, 0))), len(family[0]))
        wide = [[lot] for lot in sorted([(1, 0, item) for item in range(10)])]
        for family in [[lots], wide]:
            told = {"toss": [family, family]}
            self.refused(InvalidFamilies, [told], web, self.system, "mid", (), told, "T")

    def test_what_means_nothing(self):
        told = {**self.good, "game": 7, 3: None, None: [], (1, 2): {}, "x": [[]]}
        net = web(self.system, "game", (), told, "S")
        self.assertEqual(net.moves(((1,), 1)), [[(((1,), 1, 0), 1)], [(((1,), 1, 1), 1)]])
        self.assertEqual(web(self.system, "toss", (), {"toss": 5}, "S").first(1), 1)
        other = read_system("parties 2 name x 2 unit toss { set x = 1 } unit mid { } unit game { call toss call mid }")
        net = web(other, "game", (), self.good, "S")
        self.assertEqual(net.moves(((0,), 0, 0)), [[(((1,), 0), 1)]])

    def test_tuples(self):
        told = {unit: tuple(tuple(tuple(lots) for lots in family) for family in families)
                for unit, families in self.good.items()}
        nets = [web(self.system, "game", (2,), given, "T") for given in (self.good, told)]
        rows = [all_rows(net, self.system, "game") for net in nets]
        self.assertEqual(rows[0], rows[1])
        self.assertEqual(*[[net.moves(row) for row in rows[0]] for net in nets])

    def test_nothing_is_kept(self):
        net = web(system=self.system, unit="game", side=(2,), families=self.good, view="T")
        rows = all_rows(net, self.system, "game")
        moves = [net.moves(row) for row in rows[:3]]
        self.good["mid"][0][0].clear()
        self.good["mid"][1].append([])
        self.good["toss"].clear()
        self.good.clear()
        fresh = {"toss": [[[(1, 0, 0)]], [[(0, 1, 0)]]], "mid": [[[(0, 1, 1), (1, 0, 0)]], [[(0, 0, 1)], [(1, 1, 0)]]]}
        other = web(self.system, "game", (2,), fresh, "T")
        self.assertEqual(rows, all_rows(other, self.system, "game"))
        self.assertEqual([net.moves(row) for row in rows], [other.moves(row) for row in rows])
        self.assertEqual(moves, [other.moves(row) for row in rows[:3]])


class Follows(Case):
    def webs(self, seed, count):
        rng = random.Random(seed)
        for at in range(count):
            system = some_system(rng, True) if at % 3 == 0 else small_system(rng)
            unit = rng.choice(unit_names(system))
            yield rng, system, unit

    def test_ways_by_the_second_meaning(self):
        for rng, system, unit in self.webs(78, 200):
            names = unit_names(system)
            cut = (*system[:2], system[2][:names.index(unit) + 1])
            side = rng.choice(sides(system[0]))
            net = web(cut, unit, side, some_families(rng, cut, unit), rng.choice("ST"))
            for store in range(net.never):
                self.walk(rng, cut, unit, net, store)

    def walk(self, rng, system, unit, net, store):
        session = of_system(system, store)
        place = net.first(store)
        for _ in range(25):
            asked = session.asked
            if asked[0] in ("back", "over"):
                self.assertEqual(place, session.store())
                return
            self.assertTrue(net.is_row(place))
            answer = any_answer(rng, asked)
            if asked[0] == "call":
                inner = len(session.marks)
                session.answer()
                count = 0
                while len(session.marks) > inner:
                    kept = session.store()
                    session.answer(any_answer(rng, session.asked))
                    count += 1
                    if count > 60:
                        return
                place = net.behind(place, kept)
                continue
            moves = net.moves(place)
            if asked[0] == "loop":
                move = moves[0]
            elif asked[0] == "choose":
                move = moves[asked[2].index(answer)]
            elif net.owner(place) == "wheel":
                move = moves[0]
            else:
                move = moves[self.pair_of(system, unit, place, answer)]
            session.answer(answer)
            places = [one for one, _ in move]
            if len(places) == 1:
                place = places[0]
            else:
                place = self.place_of(session, places)

    def pair_of(self, system, unit, place, part):
        pairs = dict(statements(system, unit))[place[0]][-1]
        for at, (_, weight) in enumerate(pairs):
            if part < weight:
                return at
            part -= weight

    def place_of(self, session, places):
        """The one of some places at which the session is: its store, and what it asks for, tell it well enough."""
        store = session.store()
        fits = [place for place in places if (place if isinstance(place, int) else place[1]) == store]
        self.assertEqual(len(fits), 1)
        return fits[0]

    def test_chances_by_parts(self):
        for rng, system, unit in self.webs(781, 150):
            net = web(system, unit, tuple(range(1, system[0] + 1)), some_families(rng, system, unit), "S")
            for path, statement in statements(system, unit):
                if statement[0] in ("draw", "spin"):
                    move = net.moves((path, 0))[0]
                    values = {place: 0 for place, _ in move}
                    whole = sum(weight for _, weight in statement[-1])
                    other = web(system, unit, (), some_families(rng, system, unit), "S")
                    for at, (value, weight) in enumerate(statement[-1]):
                        if statement[0] == "spin":
                            values[other.moves((path, 0))[at][0][0]] += weight
                    if statement[0] == "spin":
                        total = sum(weight for _, weight in move)
                        self.assertEqual({place: weight * whole for place, weight in move},
                                         {place: weight * total for place, weight in values.items()})

    def test_other_families(self):
        for rng, system, unit in self.webs(76, 120):
            nets = [web(system, unit, rng.choice(sides(system[0])), some_families(rng, system, unit), rng.choice("ST"))
                    for _ in range(2)]
            rows = [all_rows(net, system, unit) for net in nets]
            plain = [[row for row in one if len(row) == 2] for one in rows]
            self.assertEqual(*plain)
            calls = [path for path, statement in statements(system, unit) if statement[0] == "call"]
            self.assertEqual(*[[net.first(store) for store in range(net.never)] for net in nets])
            for path in calls:
                for store in range(nets[0].never):
                    self.assertEqual(*[[net.behind((path, store), end) for end in range(net.never + 1)] for net in nets])
            for place in plain[0]:
                frames = [net_rows(net, place, True) for net in nets]
                self.assertEqual(*[[row for row in one if len(row) == 2] for one in frames])
                met = net_rows(nets[0], place)
                self.assertLessEqual(set(met), set(frames[0]))

    def test_more_stores_more_rows(self):
        for rng, system, unit in self.webs(761, 120):
            less = some_families(rng, system, unit)
            more = {name: [sorted([*family, [(1,) * len(family[0][0])]]) for family in families]
                    for name, families in less.items()}
            more = {name: [[list(one) for one in sorted({tuple(lots) for lots in family})] for family in families]
                    for name, families in more.items()}
            for view in "ST":
                small = web(system, unit, (), less, view)
                big = web(system, unit, (1,), more, view)
                for row in all_rows(small, system, unit):
                    if len(row) == 2:
                        few = {one for one in net_rows(small, row) if len(one) == 2}
                        many = net_rows(big, row)
                        self.assertTrue(many == [] or few <= set(many))

    def test_larger_sides(self):
        for rng, system, unit in self.webs(77, 120):
            side = rng.choice(sides(system[0]))
            other = rng.choice(larger(side, system[0]))
            families = some_families(rng, system, unit)
            view = rng.choice("ST")
            net, big = [web(system, unit, one, families, view) for one in (side, other)]
            for row in all_rows(net, system, unit):
                kind = dict(statements(system, unit))[row[0]][0]
                if kind == "choose":
                    self.assertFalse(net.owner(row) == "A" and big.owner(row) == "B")
                    self.assertEqual(net.moves(row), big.moves(row))
                if kind == "spin" and net.owner(row) == "wheel":
                    self.assertEqual(big.owner(row), "wheel")
                if kind == "spin" and big.owner(row) == "wheel":
                    places = {place for move in net.moves(row) for place, _ in move}
                    self.assertEqual(places, {place for place, _ in big.moves(row)[0]})

    def test_the_rest(self):
        count = 0
        for rng, system, unit in self.webs(771, 500):
            bad = [statement for _, statement in statements(system, unit)
                   if statement[0] == "spin" or statement[:2] == ("choose", 0)]
            if bad:
                continue
            count += 1
            side = rng.choice(sides(system[0]))
            families = some_families(rng, system, unit)
            net = web(system, unit, side, families, "S")
            other = web(system, unit, rest(side, system[0]), families, "T")
            rows = all_rows(net, system, unit)
            self.assertEqual(rows, all_rows(other, system, unit))
            for row in rows:
                self.assertEqual(net.moves(row), other.moves(row))
                self.assertEqual({"A": "B", "B": "A", "wheel": "wheel"}[net.owner(row)], other.owner(row))
        self.assertGreater(count, 50)

    def test_rows_from_by_moves(self):
        for rng, system, unit in self.webs(75, 120):
            net = web(system, unit, rng.choice(sides(system[0])), some_families(rng, system, unit), rng.choice("ST"))
            for place in all_rows(net, system, unit):
                for is_frame in (False, True):
                    found = {place}
                    while True:
                        more = {one for row in found for one in self.behind(net, row, is_frame)} - found
                        if not more:
                            break
                        found |= more
                    self.assertEqual(net_rows(net, place, is_frame, sorted(found)), sorted(found))

    def behind(self, net, row, is_frame):
        places = [place for move in net.moves(row) for place, _ in move]
        if is_frame and len(row) == 3:
            places += [net.behind(row[:2], store) for store in range(net.never)]
        return [place for place in places if not isinstance(place, int)]

    def test_moves_are_well_formed(self):
        for rng, system, unit in self.webs(74, 150):
            net = web(system, unit, rng.choice(sides(system[0])), some_families(rng, system, unit), rng.choice("ST"))
            for row in all_rows(net, system, unit):
                moves = net.moves(row)
                self.assertGreater(len(moves), 0)
                for move in moves:
                    self.assertGreater(len(move), 0)
                    keys = [(not isinstance(place, int), place) for place, _ in move]
                    for one, other in combinations(keys, 2):
                        self.assertLess(one, other)
                    for place, weight in move:
                        self.assertIs(type(weight), int)
                        self.assertTrue(net.is_row(place) or place in range(net.never + 1))


def net_rows(net, place, is_frame=False, given=()):
    """The rows from a place; what is given, if there are too many of them."""
    try:
        return net.frame_rows(place) if is_frame else net.rows_from(place)
    except TooMany as error:
        if given:
            assert error.count == len([row for row in given if len(row) == 2]) > 24
        return list(given)


if __name__ == "__main__":
    unittest.main()

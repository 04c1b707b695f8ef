"""Tests of evenpatch.registry."""

import ast
import pathlib
import random
import unittest

from brute import quiet
from helpers import Case, fraction, strange
from second import small_body, small_system
from test_meets import changed

from evenpatch.bundles import bundle_paper, doors
from evenpatch.checks import body_of, space_of, unit_names, with_body
from evenpatch.errors import (InvalidBody, InvalidEdition, InvalidLines, InvalidPrice, InvalidPromised, InvalidSystem,
                              InvalidUnit, NotFair, NotLet, PactError, TooDear, TooGreat, TooMany, TooRich)
from evenpatch.machine import Shelf
from evenpatch.meets import harm, harm_paper, is_paper_for, paper_for, stands_for
from evenpatch.parties import sides
from evenpatch.plans import families, value
from evenpatch.ratios import Ratio
from evenpatch.registry import Registry, read_registry
from evenpatch.texts import read_system, write_system

TOSS = "unit toss { choose p1 low { set x = 0 } or high { set x = 1 } } unit game { call toss }"


def text(units, names="name x 2", parties=2):
    return read_system(f"parties {parties} {names} {units}")


def body_from(source, names="name x 2", parties=2):
    return text(f"unit made {{ {source} }}", names, parties)[2][0][1]


def some_body(rng, system, unit):
    names = unit_names(system)
    if rng.random() < 0.6:
        return changed(rng, system, unit)
    return small_body(rng, system[0], system[1], names[:names.index(unit)], 4)


def some_sides(rng, parties):
    return sorted(rng.sample(sides(parties), rng.randint(1, 3)))


def some_registry(rng, many=None):
    while True:
        system = small_system(rng, many=many or rng.randint(1, 3))
        registry = quiet(Registry, system, some_sides(rng, system[0]))
        if registry is not None:
            return system, registry


def tell(call, *args):
    """What a call returns, or the error that it raises."""
    try:
        return call(*args)
    except PactError as error:
        return type(error), list(vars(error).values())


def state(registry):
    """All that a registry tells."""
    found = [registry.lines(), registry.promised(), registry.published()]
    for unit in unit_names(registry.published()):
        found.append(registry.standing(unit))
        for number, body in registry.editions(unit):
            found.append([body, registry.bundle_of(unit, number), registry.harms(unit, number), registry.paper(unit, number)])
    return found


def exchange_some(rng, system, registry, count):
    """Exchanges of all kinds; the list of what was asked and told."""
    told = []
    names = unit_names(system)
    for _ in range(count):
        unit = rng.choice(names)
        kind = rng.randrange(3)
        if kind == 0:
            args = (registry.exchange, unit, some_body(rng, system, unit))
        elif kind == 1:
            args = (registry.exchange_at, unit, some_body(rng, system, unit), Ratio(rng.randint(0, 4), 4))
        else:
            some = rng.sample(names, rng.randint(1, len(names)))
            args = (registry.exchange_all, {name: some_body(rng, system, name) for name in some})
        told.append((args, tell(*args)))
    return told


class Registries(Case):
    def test_promised(self):
        system = text(TOSS)
        for good in ([()], [(), (1,), (1, 2), (2,)], ((1,), (2,)), [(1, 2)]):
            registry = Registry(system=system, promised=good)
            self.assertEqual(registry.promised(), list(good))
            registry.promised().clear()
            self.assertEqual(registry.promised(), list(good))
        for bad in [*strange(), [], (), [(1,), ()], [(1,), (1,)], [[1]], [(3,)], [(2, 1)], [(1,), 2], [(True,)], "p1", {(): 1}, 1,
                    [(Ratio(1),)]]:
            if bad != ((),):
                self.refused(InvalidPromised, [bad], Registry, system, bad)
        self.assertEqual(len(Registry(text(TOSS, parties=3), sides(3)).promised()), 8)
        for value_ in strange():
            self.refused(InvalidSystem, [value_], Registry, value_, None)
        self.refused(NotFair, ["twice", None, "x"], Registry, (2, (("x", 2),), (("x", ()),)), None)
        given = [(1,)]
        registry = Registry(system, given)
        given.append((2,))
        self.assertEqual(registry.promised(), [(1,)])

    def test_at_first(self):
        registry = Registry(text(TOSS), [(), (1,)])
        self.assertIsInstance(registry, Shelf)
        for unit in ("toss", "game"):
            self.assertEqual([registry.standing(unit), registry.paper(unit, 0), registry.bundle_of(unit, 0)], [0, None, ()])
            self.assertEqual([(side, [str(item) for item in numbers]) for side, numbers in registry.harms(unit, 0)],
                             [((), ["0", "0"]), ((1,), ["0", "0"])])
        for call in (registry.paper, registry.harms):
            for wrong in [*strange(), "x"]:
                self.refused(InvalidUnit, [wrong], call, wrong, 9)
                self.refused(InvalidEdition, [wrong], call, "toss", wrong)
            for wrong in (1, -1, True, Ratio(0)):
                self.refused(InvalidEdition, [wrong], call, "toss", wrong)

    def test_bounds_of_published_bodies(self):
        """Units that are called by none may be of any kind, but for the rows of a frame."""
        many = "choose p1 a { } or b { } " * 9
        rows = "choose p1 a { set x = 0 } or b { set x = 1 } " + "draw x 0 by 1 1 by 1 " * 11
        self.assertIsNotNone(Registry(text(f"unit a {{ {many} }} unit b {{ }}"), [()]))
        self.assertIsNotNone(Registry(text(f"unit a {{ {rows} }} unit b {{ }}"), [()]))
        last = "if x = 0 { draw x 0 by 1 1 by 1 } else { } "
        self.assertIsNotNone(Registry(text(f"unit a {{ {rows + last} }} unit b {{ }}"), [()]))
        more = rows + "draw x 0 by 1 1 by 1 "
        self.refused(TooMany, [25], Registry, text(f"unit a {{ {more} }} unit b {{ }}"), [()])
        self.refused(TooMany, [257], Registry, text(f"unit a {{ {many} }} unit b {{ call a }}"), [()])
        # All bounds of one unit come ahead of those of the next.
        self.refused(TooMany, [25], Registry, text(f"unit a {{ {many} }} unit b {{ {more} }} unit c {{ call a }}"), [()])
        self.refused(TooMany, [257], Registry, text(f"unit a {{ {many} }} unit b {{ call a }} unit c {{ {more} }}"), [()])
        part = "if x = 1 { draw x 0 by 1 1 by 12 } else { } " * 10
        great = f"unit a {{ {part} }} unit b {{ call a call a call a call a }} "
        self.assertIsNotNone(Registry(text(great), [()]))
        self.refused(TooGreat, ["b", 1], Registry, text(great + "unit c { call b }"), [()])

    def test_rows_of_frames(self):
        """What a called unit cannot bring counts, too: behind a call there is every store."""
        behind = "call u if x = 1 { " + "draw x 0 by 1 1 by 1 " * 12 + "draw x 0 by 1 1 by 1 } else { }"
        system = text(f"unit u {{ set x = 0 }} unit game {{ {behind} }}")
        self.assertEqual(value(system, "game", 0, (), [3, 1, 2]), 3)
        self.refused(TooMany, [26], Registry, system, [()])
        registry = Registry(text("unit u { set x = 0 } unit game { call u }"), [()])
        body = body_of(system, "game")
        self.refused(TooMany, [26], registry.exchange, "game", body)
        self.refused(TooMany, [26], registry.exchange_at, "game", body, 1)
        self.refused(TooMany, [26], registry.exchange_all, {"game": body})

    def test_sides_side_by_side(self):
        rich = "choose p1 a { set x = 0 } or b { draw x 0 by 1 1 by 1 } or c { set x = 1 } "
        rich += "choose p1 a { } or b { draw x 2 by 1 3 by 1 } or c { set x = 4 } "
        units = f"unit toss {{ {rich} }} unit game {{ call toss }}"
        system = text(units, "name x 6")
        for promised, told in [([(), (1,)], [()]), ([(1,), (1, 2)], [(1,)]), ([(1, 2), (2,)], [(1, 2)]), ([(2,)], [(2,)])]:
            self.refused(TooRich, ["toss", 0, told[0], 10], Registry, system, promised)


class Exchanges(Case):
    def test_against_papers(self):
        """Bodies are taken just if they are let by for each side; errors tell the first side and its attack."""
        rng = random.Random(122)
        kinds = {}
        for _ in range(120):
            system, registry = some_registry(rng)
            for _ in range(6):
                unit = rng.choice(unit_names(system))
                body = some_body(rng, system, unit)
                self.one(system, registry, unit, body, kinds)
        self.assertGreater(min(kinds[kind] for kind in ("new", "old", NotLet, "dear", "cheap")), 40)

    def one(self, system, registry, unit, body, kinds):
        ahead = state(registry)
        many = len(registry.editions(unit))
        equal = [number for number, other in registry.editions(unit) if other == body]
        papers = [(side, tell(paper_for, system, unit, body, side)) for side in registry.promised()]
        found = tell(registry.exchange, unit, body)
        wrong = [paper for _, paper in papers if isinstance(paper[0], type)]
        if wrong:
            self.assertEqual(found, wrong[0])
            kinds["bound"] = kinds.get("bound", 0) + 1
        elif all(paper[0] == "yes" for _, paper in papers):
            self.assertEqual(found, equal[0] if equal else many)
            kind = "old" if equal else "new"
            kinds[kind] = kinds.get(kind, 0) + 1
            self.assertEqual(registry.standing(unit), found)
            self.assertEqual(registry.paper(unit, found), papers if found else None)
            self.assertTrue(all(number == 0 for _, numbers in registry.harms(unit, found) for number in numbers))
            return
        else:
            side, paper = [(side, paper) for side, paper in papers if paper[0] == "no"][0]
            self.assertEqual(found, (NotLet, [side, *paper[1:]]))
            self.assertIs(is_paper_for(system, unit, body, side, ("no", *found[1][1:])), True)
            kinds[NotLet] = kinds.get(NotLet, 0) + 1
        self.assertEqual(state(registry), ahead)
        if not wrong:
            self.priced(system, registry, unit, body, kinds)

    def priced(self, system, registry, unit, body, kinds):
        harms = [(side, harm(system, unit, body, side)) for side in registry.promised()]
        most = max((fraction(number) for _, numbers in harms for number in numbers))
        ahead = state(registry)
        low = Ratio(most.numerator, most.denominator) - Ratio(1, 1000)
        first = [(side, store, number) for side, numbers in harms for store, number in enumerate(numbers) if low.below(number)][0]
        self.assertEqual(tell(registry.exchange_at, unit, body, low), (TooDear, list(first)))
        self.assertEqual(state(registry), ahead)
        kinds["dear"] = kinds.get("dear", 0) + 1
        number = registry.exchange_at(unit, body, Ratio(most.numerator, most.denominator))
        self.assertEqual([registry.harms(unit, number), registry.standing(unit)], [harms, number])
        papers = []
        for side in registry.promised():
            paper = paper_for(system, unit, body, side)
            papers.append((side, paper if paper[0] == "yes" else harm_paper(system, unit, body, side)))
        self.assertEqual(registry.paper(unit, number), papers)
        kinds["cheap"] = kinds.get("cheap", 0) + 1
        self.assertEqual(registry.exchange_at(unit, body, 1), number)
        registry.stand(unit, 0)
        self.assertEqual(tell(registry.exchange_at, unit, body, low), (TooDear, list(first)))
        self.assertEqual(tell(registry.exchange, unit, body)[0], NotLet)
        self.assertEqual(registry.standing(unit), 0)

    def test_order_of_errors(self):
        registry = Registry(text(TOSS), [(1,)])
        for call, more in [(registry.exchange, ()), (registry.exchange_at, (5,))]:
            for wrong in strange():
                self.refused(InvalidUnit, [wrong], call, wrong, 3, *more)
                if wrong != ():
                    self.refused(InvalidBody, [wrong], call, "toss", wrong, *more)
            self.refused(NotFair, ["call", "toss", "game"], call, "toss", (("call", "game"),), *more)
        coin = body_from("draw x 0 by 1 1 by 1")
        for wrong in [*[one for one in strange() if one != Ratio(1, 2)], 2, Ratio(3, 2), Ratio(-1, 9), "1", [1]]:
            self.refused(InvalidPrice, [wrong], registry.exchange_at, "toss", coin, wrong)
        self.assertEqual(registry.exchange_at(unit="toss", body=coin, price=Ratio(1, 2)), 1)
        # Twelve editions: bodies that are there are still asked for, others are not judged.
        for weight in range(2, 12):
            registry.exchange_at("toss", body_from(f"draw x 0 by 1 1 by {weight}"), 1)
        nine = body_from("choose p1 a { } or b { } " * 9)
        self.refused(TooMany, [13], registry.exchange, "toss", nine)
        self.refused(TooMany, [13], registry.exchange_at, "toss", nine, 0)
        self.refused(InvalidPrice, [2], registry.exchange_at, "toss", nine, 2)
        self.refused(TooMany, [13], registry.exchange_all, {"toss": nine})
        self.assertEqual(tell(registry.exchange, "toss", coin)[0], NotLet)
        self.assertEqual(tell(registry.exchange_at, "toss", coin, Ratio(1, 3)), (TooDear, [(1,), 0, Ratio(1, 2)]))
        self.assertEqual([registry.exchange_at("toss", coin, Ratio(1, 2)), registry.exchange("toss", body_of(text(TOSS), "toss"))],
                         [1, 0])
        self.assertEqual(len(registry.editions("toss")), 12)
        # Bounds come ahead of what is not let by, for all sides.
        other = Registry(text(TOSS), [(), (1,)])
        self.refused(TooMany, [257], other.exchange, "toss", nine)
        self.refused(TooMany, [257], other.exchange_at, "toss", nine, 0)

    def test_bounds_of_a_later_side_come_ahead(self):
        """A body that is not let by for the first side, and whose bounds are passed for the second one alone."""
        rich = "choose p1 a { set x = 0 } or b { draw x 0 by 1 1 by 1 } or c { set x = 1 } "
        rich += "choose p1 a { } or b { draw x 2 by 1 3 by 1 } or c { set x = 4 } "
        units = "unit toss { " + rich.replace("p1", "net") + "} unit game { }"
        system = text(units, "name x 6")
        registry = Registry(system, [()])
        body = (("call", "toss"),)
        told = tell(registry.exchange, "game", body)
        self.assertEqual(told[0], TooRich)
        self.assertEqual(tell(registry.exchange_at, "game", body, 0), told)

    def test_called_units_are_asked_for_in_both_views(self):
        """A unit with ten sets in the view "S" has one set of few corners in the view "T"."""
        rich = "choose p1 a { set x = 0 } or b { draw x 0 by 1 1 by 1 } or c { set x = 1 } "
        rich += "choose p1 a { } or b { draw x 2 by 1 3 by 1 } or c { set x = 4 } "
        system = text("unit toss { " + rich + "} unit game { }", "name x 6")
        body = (("call", "toss"),)
        for promised in ([(1,)], [(), (1,)]):
            registry = Registry(system, promised)
            for call, more in [(registry.exchange, ()), (registry.exchange_at, (1,))]:
                self.refused(TooRich, ["toss", 0, (1,), 10] if promised == [(1,)] else ["toss", 0, (), 10],
                             call, "game", body, *more)
        registry = Registry(text("unit toss { " + rich.replace("p1", "p2") + "} unit game { }", "name x 6"), [(1,), (2,)])
        self.refused(TooRich, ["toss", 0, (1,), 10], registry.exchange, "game", body)
        registry = Registry(text("unit toss { " + rich.replace("p1", "p2") + "} unit game { }", "name x 6"), [(1, 2), (2,)])
        self.refused(TooRich, ["toss", 0, (1, 2), 10], registry.exchange, "game", body)
        # With the first side all is well in both views; the second one's sets are too many in "S" alone.
        rich = "choose p1 a { set x = 0 } or b { draw x 0 by 1 1 by 1 } or c { set x = 1 } "
        rich += "choose p1 a { } or b { draw x 1 by 1 2 by 1 } or c { set x = 2 } "
        toss = "choose p2 free { " + rich + "} or fix { spin p2 x 0 by 1 1 by 1 2 by 1 } "
        system = text("unit toss { " + toss + "} unit game { }", "name x 3")
        self.assertEqual([len(families(system, "toss", side, view)[0]) for side in [(1,), (1, 2)] for view in "ST"],
                         [1, 3, 10, 1])
        body = (("call", "toss"),)
        self.assertEqual(tell(Registry(system, [(1,)]).exchange, "game", body)[0], NotLet)
        registry = Registry(system, [(1,), (1, 2)])
        for call, more in [(registry.exchange, ()), (registry.exchange_at, (1,))]:
            self.refused(TooRich, ["toss", 0, (1, 2), 10], call, "game", body, *more)
        self.refused(TooRich, ["toss", 0, (1, 2), 10], registry.exchange_all, {"game": body})
        calling = with_body(system, "game", body)
        self.refused(TooRich, ["toss", 0, (1, 2), 10], Registry, calling, [(1,), (1, 2)])

    def test_prices(self):
        registry = Registry(text(TOSS), [(1,)])
        coin = body_from("draw x 0 by 1 1 by 3")
        self.assertEqual(tell(registry.exchange_at, "toss", coin, 0), (TooDear, [(1,), 0, Ratio(3, 4)]))
        self.assertEqual(tell(registry.exchange_at, "toss", coin, Ratio(74, 100)), (TooDear, [(1,), 0, Ratio(3, 4)]))
        self.assertEqual([registry.exchange_at("toss", coin, Ratio(3, 4)), registry.standing("toss")], [1, 1])
        self.assertEqual([registry.exchange_at("toss", coin, 1), len(registry.editions("toss"))], [1, 2])
        numbers = registry.harms("toss", 1)
        numbers[0][1].clear()
        numbers.clear()
        self.assertEqual(registry.harms(unit="toss", number=1), [((1,), [Ratio(3, 4)] * 2)])
        papers = registry.paper("toss", 1)
        papers[0][1][0][3].clear()
        papers[0][1].clear()
        self.assertEqual(registry.paper(unit="toss", number=1)[0][1], harm_paper(text(TOSS), "toss", coin, (1,)))

    def test_published_counts(self):
        """What is taken is taken in whatever order, with equal harms and papers, and what is refused stays refused."""
        rng = random.Random(126)
        for _ in range(60):
            system, registry = some_registry(rng)
            told = exchange_some(rng, system, registry, 7)
            other = Registry(system, registry.promised())
            order = list(range(len(told)))
            rng.shuffle(order)
            for at in order:
                (call, *args), result = told[at]
                again = tell(getattr(other, call.__name__), *args)
                if isinstance(result, tuple) and isinstance(result[0], type):
                    self.assertEqual(again, result)
                    continue
                pairs = [(args[0], result, again)] if not isinstance(result, tuple) else \
                    [(unit, number, later) for (unit, number), (_, later) in zip(result, again)]
                for unit, number, later in pairs:
                    self.assertEqual(registry.body_at(unit, number), other.body_at(unit, later))
                    if registry.bundle_of(unit, number) == () == other.bundle_of(unit, later):
                        self.assertEqual(registry.harms(unit, number), other.harms(unit, later))
                        self.assertEqual(registry.paper(unit, number), other.paper(unit, later))
                if rng.random() < 0.3:
                    unit = rng.choice(unit_names(system))
                    quiet(other.stand, unit, rng.randrange(len(other.editions(unit))))


class Bundles(Case):
    def test_against_bundle_papers(self):
        rng = random.Random(127)
        kinds = {"yes": 0, "no": 0}
        for _ in range(200):
            system, registry = some_registry(rng)
            names = unit_names(system)
            bodies = {name: some_body(rng, system, name) for name in rng.sample(names, rng.randint(1, len(names)))}
            ahead = state(registry)
            papers = [(side, tell(bundle_paper, system, bodies, side)) for side in registry.promised()]
            found = tell(registry.exchange_all, bodies)
            if any(isinstance(paper[0], type) for _, paper in papers) or isinstance(found[0], type) and found[0] is not NotLet:
                self.assertIsInstance(found[0], type)
                continue
            wrong = [(side, paper) for side, paper in papers if paper[0] == "no"]
            kinds["no" if wrong else "yes"] += 1
            if wrong:
                self.assertEqual(found, (NotLet, [wrong[0][0], *wrong[0][1][2:]]))
                self.assertEqual(state(registry), ahead)
                continue
            self.assertEqual([unit for unit, _ in found], [unit for unit in names if unit in bodies])
            for unit, number in found:
                self.assertEqual([registry.body_at(unit, number), registry.bundle_of(unit, number)], [bodies[unit], found])
                self.assertTrue(all(item == 0 for _, numbers in registry.harms(unit, number) for item in numbers))
                if unit in doors(system, bodies):
                    want = [(side, ("yes", dict(paper[1])[unit])) for side, paper in papers]
                    self.assertEqual([registry.standing(unit), registry.paper(unit, number)], [number, want])
                else:
                    self.assertIsNone(registry.paper(unit, number))
                    self.refused(InvalidEdition, [number], registry.stand, unit, number)
        self.assertGreater(min(kinds.values()), 40)

    def test_order_of_errors(self):
        many = "choose p1 a { } or b { } " * 9
        nine = body_from(many)
        rows = body_from("choose p1 a { set x = 0 } or b { set x = 1 } " + "draw x 0 by 1 1 by 1 " * 12)
        registry = Registry(text("unit a { } unit b { } unit c { call a }"), [()])
        for wrong in [*[one for one in strange() if one != {}], {}, {"x": ()}, {"b": ()}]:
            self.refused(InvalidBody, [wrong], registry.exchange_all, wrong)
        # The bundle's own families are asked for where it calls them, in "S", too; then its doors; then the rows.
        self.refused(TooMany, [257], registry.exchange_all, {"a": nine})
        self.refused(TooMany, [257], registry.exchange_all, {"b": nine, "c": (("call", "b"),)})
        self.refused(TooMany, [25], registry.exchange_all, {"a": rows})
        self.refused(TooMany, [25], registry.exchange_all, {"b": rows, "c": ()})
        self.refused(TooMany, [25], registry.exchange_all, {"b": rows, "a": (("set", "x", ("num", 1)),)})
        # Bodies that none of the bundle calls are not judged; with few enough rows they are let by.
        self.assertEqual(registry.exchange_all({"b": nine, "c": ()}), (("b", 1), ("c", 1)))
        self.assertEqual(tell(registry.exchange_all, {"a": (("set", "x", ("num", 1)),)})[0], NotLet)
        self.assertEqual(len(registry.editions("a")), 1)

    def test_papers_of_doors(self):
        """The paper of a door goes by the bundle's own families, not by those of published units."""
        system = text("unit w { draw x 0 by 1 1 by 1 } unit u { call w } unit game { call u }")
        registry = Registry(system, [(1,)])
        bodies = {"u": (("call", "w"), ("call", "w")),
                  "w": body_from("choose p1 a { draw x 0 by 1 1 by 1 } or b { set x = 0 }")}
        self.assertEqual(registry.exchange_all(bodies), (("w", 1), ("u", 1)))
        paper = bundle_paper(system, bodies, (1,))
        self.assertEqual([registry.paper("w", 1), registry.paper("u", 1)], [None, [((1,), ("yes", paper[1][0][1]))]])
        self.assertNotEqual(paper_for(system, "u", bodies["u"], (1,)), registry.paper("u", 1)[0][1])
        self.assertEqual([len(row[3]) for row in paper[1][0][1][0]], [2])

    def test_rich_in_one_view(self):
        """Ten sets in "S" are asked for in bundles, too, though a bundle's paper goes by "T"."""
        rich = "choose p1 a { set x = 0 } or b { draw x 0 by 1 1 by 1 } or c { set x = 1 } "
        rich += "choose p1 a { } or b { draw x 2 by 1 3 by 1 } or c { set x = 4 } "
        ten = body_from(rich, "name x 6")
        registry = Registry(text("unit a { } unit b { }", "name x 6"), [(1,)])
        bodies = {"a": ten, "b": (("call", "a"),)}
        told = tell(registry.exchange_all, bodies)
        self.assertEqual(told, (TooRich, ["a", 0, (1,), 10]))

    def test_twelve(self):
        registry = Registry(text("unit a { } unit b { call a }"), [()])
        for at in range(11):
            self.assertEqual(registry.exchange_all({"b": ()}), (("b", at + 1),))
        self.refused(TooMany, [13], registry.exchange_all, {"a": (), "b": ()})
        self.assertEqual([registry.exchange_all({"a": ()}), registry.exchange("b", body_of(registry.published(), "b"))],
                         [(("a", 1),), 0])
        self.refused(TooMany, [13], registry.exchange, "b", ())


class Lines(Case):
    def test_lines(self):
        rng = random.Random(129)
        for _ in range(80):
            system, registry = some_registry(rng)
            exchange_some(rng, system, registry, rng.randint(0, 9))
            for unit in unit_names(system):
                quiet(registry.stand, unit, rng.randrange(len(registry.editions(unit))))
            lines = registry.lines()
            self.assertEqual(lines, self.told(registry))
            again = read_registry(tuple(lines)) if rng.random() < 0.3 else read_registry(lines=lines)
            self.assertEqual(again, registry)
            self.assertEqual(state(again), state(registry))
            lines.clear()
            self.assertEqual(registry.lines(), again.lines())
            self.spoil(rng, registry)

    def told(self, registry):
        """The lines by the document's words."""
        system = registry.published()
        lines = write_system(system).split("\n")
        for side in registry.promised():
            lines.append(" ".join(["promised"] + [f"p{party}" for party in side]))
        for unit in unit_names(system):
            for number, body in registry.editions(unit)[1:]:
                bundle = registry.bundle_of(unit, number)
                words = ["edition", str(number)]
                if bundle:
                    words += ["with"] + [word for name, at in bundle for word in (name, str(at))]
                lines.append(" ".join(words))
                whole = write_system((*system[:2], ((unit, body),))).split("\n")
                lines.extend(whole[1 + len(system[1]):])
        return lines + [f"stand {unit} {registry.standing(unit)}" for unit in unit_names(system)]

    def spoil(self, rng, registry):
        """Lists of lines with one thing changed are refused, unless they are those of another registry."""
        lines = registry.lines()
        for _ in range(12):
            changed = list(lines)
            at = rng.randrange(len(lines))
            kind = rng.randrange(5)
            if kind == 0:
                del changed[at]
            elif kind == 1:
                changed.insert(at, lines[at])
            elif kind == 2:
                changed[at] = rng.choice([lines[at] + " ", " " + lines[at], lines[at] + "\n", "", lines[at].upper() + "x"])
            elif kind == 3:
                other = rng.randrange(len(lines))
                changed[at], changed[other] = lines[other], lines[at]
            else:
                digits = [k for k, sign in enumerate(lines[at]) if sign.isdigit()]
                if digits:
                    k = rng.choice(digits)
                    changed[at] = lines[at][:k] + rng.choice("0123456789") + lines[at][k + 1:]
            found = quiet(read_registry, changed)
            if found is None:
                self.refused(InvalidLines, [changed], read_registry, changed)
            else:
                self.assertEqual(found.lines(), changed)

    def test_refused(self):
        system = text("unit a { } unit b { call a } unit c { call a call b }")
        head = write_system(system).split("\n")
        stands = ["stand a 0", "stand b 0", "stand c 0"]
        good = [*head, "promised", "promised p1", *stands]
        self.assertEqual(read_registry(good).lines(), good)

        def unit(name, *rows):
            return [f"unit {name} {{", *rows, "}"]

        a, b = ["edition 1", *unit("a", "  set x = x")], ["edition 1", *unit("b")]
        pair = [["edition 1 with a 1 b 1", *unit("a")], ["edition 1 with a 1 b 1", *unit("b")]]
        promised = ["promised", "promised p1"]
        right = [a, a + b, pair[0] + pair[1], pair[0] + ["edition 2", *unit("a", "  set x = x")] + pair[1],
                 ["edition 1 with a 1", *unit("a")] + ["edition 2 with a 2", *unit("a")],
                 ["edition 1 with a 1 c 1", *unit("a"), "edition 2 with a 2 c 2", *unit("a"),
                  "edition 1 with a 1 c 1", *unit("c"), "edition 2 with a 2 c 2", *unit("c")]]
        for editions in right:
            lines = [*head, *promised, *editions, *stands]
            self.assertEqual(read_registry(lines).lines(), lines)
        crossed = ["edition 1 with a 1 b 2", *unit("a"), "edition 2 with a 2 b 1", *unit("a"),
                   "edition 1 with a 2 b 1", *unit("b"), "edition 2 with a 1 b 2", *unit("b")]
        wrong = [a + a, ["edition 2", *a[1:]], ["edition 0", *a[1:]], ["edition 01", *a[1:]], ["edition", *a[1:]], ["edition 1 ", *a[1:]],
                 ["edition 1 with", *a[1:]], ["edition 1 with a", *a[1:]], ["edition 1 with b 1", *a[1:]], pair[0], pair[0] + b,
                 pair[1] + pair[0], b + a, crossed, ["edition 1", *unit("a")], ["edition 1", *unit("a", "  set x = 1")] + a[:0] + ["x"],
                 ["edition 1", *unit("x")], ["edition 1", "unit a {", "  set x = x"], ["edition 1", *unit("a", "  set y = x")],
                 ["edition 1", *unit("a", "  call b")], ["edition 1", *unit("a", "set x = x")], ["edition 1", *unit("a", "  spin p3 x 0 by 1 1 by 1")],
                 ["edition 1 with b 1 a 1", *unit("a"), "edition 1 with b 1 a 1", *unit("b")],
                 ["edition 1 with a 1 a 1", *unit("a")], ["edition 1 with a 1", *unit("a", "  set x = 1")],
                 ["edition 1 with a 1 b 1", *unit("a"), "edition 1 with a 1", *unit("b")], ["edition 1 with a 1 d 1", *unit("a")],
                 ["edition 1 with a 1 b 2", *unit("a")], ["edition 1", *unit("a", "  set x = x"), *unit("b")]]
        for editions in wrong:
            lines = [*head, *promised, *editions, *stands]
            self.refused(InvalidLines, [lines], read_registry, lines)
        for ends in [stands[:2], stands[::-1], stands + stands[2:], ["stand a 1", *stands[1:]], ["stand a 00", *stands[1:]],
                     ["stand a", *stands[1:]], ["stand a -1", *stands[1:]], ["stand  a 0", *stands[1:]], []]:
            lines = [*head, *promised, *ends]
            self.refused(InvalidLines, [lines], read_registry, lines)
        for some in [[], ["promised p1", "promised"], ["promised", "promised"], ["promised p3"], ["promised  p1"], ["promised 1"],
                     ["promised p2 p1"], ["promised p01"], ["promised x1"], ["promised p1 "]]:
            lines = [*head, *some, *stands]
            self.refused(InvalidLines, [lines], read_registry, lines)
        for other in [head[1:], head[:-1], [], ["parties 2", "name x 2"], ["\n".join(head)]]:
            lines = [*other, *promised, *stands]
            self.refused(InvalidLines, [lines], read_registry, lines)
        for value_ in [*strange(), "".join(good), {line: 1 for line in good}, [*good, None], [good]]:
            self.refused(InvalidLines, [value_], read_registry, value_)

    def test_inner_editions_do_not_stand(self):
        system = text("unit a { } unit b { call a }")
        registry = Registry(system, [()])
        registry.exchange_all({"a": (), "b": (("call", "a"),)})
        lines = registry.lines()
        self.assertEqual(lines[-2:], ["stand a 0", "stand b 1"])
        bad = [*lines[:-2], "stand a 1", "stand b 1"]
        self.refused(InvalidLines, [bad], read_registry, bad)

    def test_what_was_taken_at_a_price(self):
        registry = Registry(text(TOSS), [(1,)])
        registry.exchange_at("toss", body_from("draw x 0 by 1 1 by 7"), 1)
        registry.exchange_at("toss", body_from("while yes { }"), 1)
        again = read_registry(registry.lines())
        self.assertEqual([again.harms("toss", 1), again.harms("toss", 2)], [[((1,), [Ratio(7, 8)] * 2)], [((1,), [Ratio(1)] * 2)]])

    def test_equal(self):
        system = text(TOSS)
        one, other = Registry(system, [(1,)]), Registry(system, ((1,),))
        self.assertTrue(one == other)
        for value_ in [*strange(), Shelf(system), one.lines(), Registry(system, [(2,)])]:
            self.assertFalse(one == value_)
        one.exchange("toss", body_from("choose p1 low { set x = 0 } or high { set x = 1 } or stay { }"))
        self.assertFalse(one == other)
        one.stand("toss", 0)
        self.assertFalse(one == other)
        other.exchange_at("toss", one.body_at("toss", 1), 1)
        self.assertFalse(one == other)
        other.stand("toss", 0)
        self.assertTrue(one == other)


class Follows(Case):
    def test_no_less_value(self):
        """Any editions without harms that are in no bundle, together, and bundles."""
        rng = random.Random(130)
        count = 0
        while count < 150:
            system, registry = some_registry(rng)
            exchange_some(rng, system, registry, 8)
            new = system
            for unit in unit_names(system):
                free = [body for number, body in registry.editions(unit) if registry.bundle_of(unit, number) == ()
                        and all(item == 0 for _, numbers in registry.harms(unit, number) for item in numbers)]
                new = quiet(with_body, new, unit, rng.choice(free)) or new
            if new == system:
                continue
            count += 1
            side = rng.choice(registry.promised())
            for unit in unit_names(system):
                store = rng.randrange(len(space_of(system)))
                payoff = [rng.randint(-3, 3) for _ in range(len(space_of(system)) + 1)]
                pair = [quiet(value, one, unit, store, side, payoff) for one in (system, new)]
                if None not in pair:
                    self.assertFalse(pair[1].below(pair[0]))

    def test_back_and_forth(self):
        """What stands may bring what another exchange takes away again; each is judged by what is published."""
        registry = Registry(text(TOSS), [(2,)])
        coin, low = body_from("draw x 0 by 1 1 by 1"), body_from("set x = 0")
        self.assertEqual([registry.exchange("toss", coin), registry.exchange("toss", low), registry.exchange("toss", coin)], [1, 2, 1])
        self.assertIs(stands_for(with_body(text(TOSS), "toss", coin), "toss", low, (2,)), False)


def as_told(value):
    """A value with tuples for lists, and with Ratios and errors written so that they can be held against lines."""
    if isinstance(value, PactError):
        return type(value).__name__, as_told(list(vars(value).values()))
    if isinstance(value, (list, tuple)):
        return tuple(as_told(item) for item in value)
    return str(value) if isinstance(value, Ratio) else value


class Many(Case):
    """Many registries, one after another, answer as they always have."""

    def told(self, call, *args):
        try:
            return as_told(call(*args))
        except PactError as error:
            return as_told(error)

    def test_a_hundred(self):
        system = (2, (("x", 6),), (("u", (("set", "x", ("num", 3)),)), ("w", ()), ("game", (("call", "w"),))))
        ask = ("choose", 1, (("a", ()), ("b", ())))
        bodies = {"game": (("call", "w"),),
                  "w": (("if", ("same", ("name", "x"), ("num", 2)), (("call", "u"),) + (ask,) * 4, (("call", "u"),) + (ask,) * 5),)}
        # With a choice less there are as many rows as there may be.
        fewer = {**bodies, "w": (("call", "u"), *[ask] * 3)}
        none = tuple((side, ("0",) * 6) for side in sides(2))
        for at in range(100):
            registry = Registry(system, sides(2))
            self.refused(TooMany, [31], registry.exchange_all, bodies)
            for unit in ("u", "w", "game"):
                self.assertEqual([self.told(registry.harms, unit, 0), registry.paper(unit, 0)], [none, None])
                self.refused(InvalidEdition, [1], registry.harms, unit, 1)
            if at % 10 == 0:
                told = self.told(registry.exchange_all, fewer)
                self.assertEqual(told, ("NotLet", ((), 0, (), (1, 0, 0, 0, 0, 0, 0), ())))

    def test_as_they_always_have(self):
        """Bodies at the bounds, taken and refused: what `registries.txt` has of what was asked and told."""
        lines = pathlib.Path(__file__).with_name("registries.txt").read_text().splitlines()
        self.assertGreater(len(lines), 30)
        for line in lines:
            system, promised, asked, told = ast.literal_eval(line)
            registry = self.told(Registry, system, promised)
            if not isinstance(registry, Registry):
                self.assertEqual([registry], told)
                continue
            for (name, *args), answer in zip(asked, told):
                if name == "exchange_at":
                    args[2] = Ratio(args[2], 4)
                self.assertEqual(self.told(getattr(registry, name), *args), answer)


if __name__ == "__main__":
    unittest.main()

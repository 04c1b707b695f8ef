"""Tests of evenpatch.bundles."""

import random
import unittest

from brute import Plain, quiet, web_over
from helpers import Case, mean_of, strange
from second import small_body, small_system

from evenpatch.bundles import bundle_paper, doors, is_bundle_paper
from evenpatch.checks import body_of, calls_of, space_of, unit_names, with_body
from evenpatch.errors import InvalidBody, InvalidSide, InvalidSystem, NotFair, TooGreat, TooMany, TooRich
from evenpatch.machine import Shelf
from evenpatch.meets import is_paper_for, paper_for
from evenpatch.parties import sides
from evenpatch.plans import families, value
from evenpatch.texts import read_system


def text(units, names="name x 2", parties=2):
    return read_system(f"parties {parties} {names} {units}")


def body_from(source, names="name x 2", parties=2):
    return text(f"unit made {{ {source} }}", names, parties)[2][0][1]


def renamed(body, bodies):
    """A body that calls the copies of the units of a bundle, whose names have one letter more."""
    found = []
    for one in body:
        if one[0] == "call" and one[1] in bodies:
            one = ("call", one[1] + "b")
        elif one[0] == "choose":
            one = (*one[:2], tuple((label, renamed(inner, bodies)) for label, inner in one[2]))
        elif one[0] in ("if", "while"):
            one = (*one[:2], *[renamed(inner, bodies) for inner in one[2:]])
        found.append(one)
    return tuple(found)


def with_copies(system, bodies):
    """The system in which each unit of a bundle has its copy, with the bundle's body, directly behind it."""
    units = []
    for unit, body in system[2]:
        units.append((unit, body))
        if unit in bodies:
            units.append((unit + "b", renamed(bodies[unit], bodies)))
    return (*system[:2], tuple(units))


def bundles(seed, count, most=4):
    """Random systems with random bundles, such that the system with copies is one, too."""
    rng = random.Random(seed)
    found = 0
    while found < count:
        system = small_system(rng, many=rng.randint(1, 3), most=4)
        names = unit_names(system)
        some = rng.sample(names, rng.randint(1, min(len(names), most - len(names))) if len(names) < most else 1)
        bodies = {}
        for unit in some:
            ahead = names[:names.index(unit)]
            bodies[unit] = body_of(system, unit) if rng.random() < 0.3 else \
                small_body(rng, system[0], system[1], ahead, 4)
            if ahead and rng.random() < 0.4:
                bodies[unit] += (("call", rng.choice(ahead)),)
        if quiet(doors, system, bodies) is None:
            continue
        found += 1
        yield rng, system, bodies, rng.choice(sides(system[0]))


class Doors(Case):
    def test_doors(self):
        system = text("unit a { } unit b { call a } unit c { if not [yes] { call a } else { } } unit d { call b call c }")
        for bodies, want in [({"a": ()}, "a"), ({"b": (), "a": ()}, "ab"), ({"c": (), "b": (), "a": ()}, "bc"),
                             ({"d": (), "c": (), "b": (), "a": ()}, "d"), ({"c": (), "b": ()}, "bc"), ({"d": (), "b": ()}, "d")]:
            self.assertEqual(doors(system, bodies), [unit for unit in "abcd" if unit in want])
        self.assertEqual(doors(system=system, bodies={"d": ()}), ["d"])

    def test_as_shelves(self):
        for rng, system, bodies, side in bundles(128, 150):
            shelf = Shelf(system)
            shelf.exchange_all(bodies)
            self.assertEqual(doors(system, bodies), [unit for unit in unit_names(system) if shelf.standing(unit) == 1])


class Papers(Case):
    def test_against_copies(self):
        """A bundle is let by if each door is, in the system with copies of its units."""
        kinds = {"yes": 0, "no": 0}
        inner = 0
        for rng, system, bodies, side in bundles(1280, 400):
            whole = with_copies(system, bodies)
            found = []
            for door in doors(system, bodies):
                paper = quiet(paper_for, whole, door, renamed(bodies[door], bodies), side)
                found.append((door, paper))
            paper = quiet(bundle_paper, system, bodies, side)
            if paper is None or None in [one for _, one in found]:
                continue
            inner += any(other in bodies for unit in bodies for other in calls_of(with_body(system, unit, bodies[unit]), unit))
            kinds[paper[0]] += 1
            attacks = [(door, one) for door, one in found if one[0] == "no"]
            if attacks:
                self.assertEqual(paper, ("no", attacks[0][0], *attacks[0][1][1:]))
                self.check_attack(whole, bodies, side, paper)
            else:
                self.assertEqual(paper, ("yes", [(door, one[1]) for door, one in found]))
            self.assertIs(is_bundle_paper(system, bodies, side, paper), True)
            self.spoil(rng, system, bodies, side, paper, whole)
        self.assertGreater(min(kinds.values()), 60)
        self.assertGreater(inner, 40)

    def check_attack(self, whole, bodies, side, paper):
        _, door, store, plan, payoff, answer = paper
        net = web_over(whole, door, side, "S")
        other = web_over(with_body(whole, door, renamed(bodies[door], bodies)), door, side, "T")
        low = min(mean_of(lot, payoff) for lot in Plain(net, net.first(store)).lots(plan))
        self.assertGreater(low, max(mean_of(lot, payoff) for lot in Plain(other, other.first(store)).lots(answer)))

    def spoil(self, rng, system, bodies, side, paper, whole):
        judge = lambda one: is_bundle_paper(system, bodies, side, one)
        if paper[0] == "yes":
            told = paper[1]
            self.assertIs(judge(("yes", tuple(told))), True)
            for wrong in [("yes", told[1:]), ("yes", told + told[:1]), ("no", told), ["yes", told], ("yes", told, 0),
                          ("yes", [list(one) for one in told]), ("yes", [(one[0] + "b", one[1]) for one in told]),
                          ("yes", [(one[0], one[1][1:]) for one in told]), ("yes", dict(told))]:
                self.assertIs(judge(wrong), False)
            return
        _, door, store, plan, payoff, answer = paper
        for wrong in [(door, store, plan, [-item for item in payoff], answer), (door, store, (*plan, 0), payoff, answer),
                      (door, store, plan, payoff, (*answer, 0)), (door, 9, plan, payoff, answer), (door, len(payoff) - 1, plan, payoff, answer), ("x", store, plan, payoff, answer),
                      (door, store, plan, payoff[1:], answer), (None, store, plan, payoff, answer)]:
            self.assertIs(judge(("no", *wrong)), False)
        new = renamed(bodies[door], bodies)
        for other in range(len(payoff) - 1):
            one = ("no", other, plan, payoff, answer)
            self.assertIs(judge(("no", door, *one[1:])), is_paper_for(whole, door, new, side, one))

    def test_other_doors(self):
        system = text("unit a { choose p1 l { set x = 0 } or h { set x = 1 } } "
                      "unit b { choose p1 l { set x = 0 } or h { set x = 1 } } unit c { call a call b }")
        bodies = {"b": body_from("set x = 0"), "a": body_from("set x = 1")}
        self.assertEqual(bundle_paper(system, bodies, (1,))[:3], ("no", "a", 0))
        for door, plan, payoff, want in [("a", (0,), [1, 0, 0], True), ("b", (1,), [0, 1, 0], True), ("b", (0,), [1, 0, 0], False)]:
            for store in (0, 1):
                paper = ("no", door, store, plan, payoff, ())
                self.assertIs(is_bundle_paper(system=system, bodies=bodies, side=(1,), value=paper), want)
        self.assertEqual(bundle_paper(system=system, bodies=bodies, side=(2,))[0], "yes")
        paper = ("no", "c", 0, (), [1, 0, 0], ())
        self.assertIs(is_bundle_paper(system, bodies, (1,), paper), False)

    def test_own_and_published(self):
        """Bodies of the bundle call its own ones; a unit outside, that they call, calls the published ones."""
        system = text("unit a { set x = 0 } unit b { call a } unit c { call b } unit d { call c }")
        bodies = {"a": body_from("set x = 1"), "d": (("call", "c"),)}
        self.assertEqual([doors(system, bodies), bundle_paper(system, {"d": bodies["d"]}, ())[0]], [["a", "d"], "yes"])
        self.assertEqual(bundle_paper(system, bodies, ())[:3], ("no", "a", 0))
        bodies = {"b": (("set", "x", ("num", 1)),), "d": (("call", "b"),), "c": (("call", "b"), ("set", "x", ("num", 0)))}
        self.assertEqual([doors(system, bodies), bundle_paper(system, bodies, ())[:3]], [["d"], ("no", "d", 0)])
        bodies["d"] = (("call", "c"),)
        self.assertEqual(bundle_paper(system, bodies, ())[0], "yes")

    def test_any_values(self):
        system = text("unit a { choose p1 l { set x = 0 } or h { set x = 1 } } unit c { call a }")
        for bodies in [{"a": body_from("set x = 1")}, {"a": body_of(system, "a"), "c": (("call", "a"), ("call", "a"))}]:
            paper = bundle_paper(system, bodies, (1,))
            for wrong in strange():
                self.assertIs(is_bundle_paper(system, bodies, (1,), wrong), False)
                for at in range(len(paper)):
                    one = (*paper[:at], wrong, *paper[at + 1:])
                    if one != paper:
                        self.assertIs(is_bundle_paper(system, bodies, (1,), one), False)
                if paper[0] == "yes":
                    for one in [("yes", [wrong]), ("yes", [(wrong, paper[1][0][1])]), ("yes", [("c", wrong)])]:
                        self.assertIs(is_bundle_paper(system, bodies, (1,), one), False)

    def test_new_lists(self):
        system = text("unit a { } unit c { call a }")
        bodies = {"a": (), "c": ()}
        first = bundle_paper(system, bodies, (1,))
        again = bundle_paper(system, bodies, (1,))
        first[1][0][1][0].clear()
        first[1][0][1].clear()
        first[1].clear()
        self.assertEqual(bundle_paper(system, bodies, (1,)), again)
        self.assertEqual(bodies, {"a": (), "c": ()})
        doors(system, bodies).clear()
        self.assertEqual(doors(system, bodies), ["c"])


class Asked(Case):
    def setUp(self):
        self.system = text("unit a { } unit b { call a } unit c { call b }")
        self.calls = [(doors, ()), (bundle_paper, (4,)), (is_bundle_paper, (4, None))]

    def test_order(self):
        for call, more in self.calls:
            self.refused(InvalidSystem, [7], call, 7, 3, *more)
            self.refused(NotFair, ["twice", None, "x"], call, (2, (("x", 2),), (("x", ()),)), 3, *more)
            self.refused(InvalidBody, [3], call, self.system, 3, *more)
            bodies = {"c": 3, "a": 5}
            self.refused(InvalidBody, [5], call, self.system, bodies, *more)
            self.refused(NotFair, ["call", "a", "c"], call, self.system, {"a": (("call", "c"),)}, *more)
            bodies = {unit: body_from("set x = 1 " * 20) for unit in "abc"}
            self.refused(InvalidBody, [bodies], call, self.system, bodies, *more)
            none = {"b": (), "a": ()}
            other = text("unit a { } unit b { call a } unit c { }")
            self.refused(InvalidBody, [none], call, other, none, *more)
            for value in [*[value for value in strange() if value != {}], {}, {"x": ()}, {"a": (), 3: ()}]:
                self.refused(InvalidBody, [value], call, self.system, value, *more)
        for value in [value for value in strange() if value != ()]:
            self.refused(InvalidSide, [value], bundle_paper, self.system, {"c": ()}, value)
            self.refused(InvalidSide, [value], is_bundle_paper, self.system, {"c": ()}, value, None)

    def test_twelve_editions_are_not_asked(self):
        self.assertEqual(bundle_paper(self.system, {"c": ()}, ())[0], "yes")

    def judged(self, error, told, system, bodies, side):
        self.refused(error, told, bundle_paper, system, bodies, side)
        self.refused(error, told, is_bundle_paper, system, bodies, side, None)

    def test_bounds_in_their_order(self):
        many = "choose p1 a { } or b { } " * 9
        nine = body_from(many)
        rows = body_from("choose p1 a { set x = 0 } or b { set x = 1 } " + "draw x 0 by 1 1 by 1 " * 12)
        # What published bodies of doors call, in the view "S", comes first.
        system = text(f"unit a {{ {many} }} unit b {{ call a }} unit c {{ call b }}")
        self.judged(TooMany, [257], system, {"b": ()}, ())
        self.judged(TooMany, [257], system, {"c": rows}, ())
        two = text(f"unit a {{ {many} }} unit b {{ }} unit c {{ }} unit d {{ call a call c }}")
        two = with_body(two, "b", rows)
        self.judged(TooMany, [257], two, {"c": (("call", "b"),), "d": ()}, ())
        self.judged(TooMany, [257], two, {"d": (("call", "b"),)}, ())
        self.judged(TooMany, [25], two, {"c": (("call", "b"),)}, ())
        # Then what the bodies call outside, in the view "T".
        system = text(f"unit a {{ {many} }} unit b {{ }} unit c {{ call b }}")
        self.judged(TooMany, [257], system, {"c": (("call", "a"),)}, ())
        self.judged(TooMany, [257], system, {"b": (("call", "a"),), "c": rows}, ())
        # Then the bundle's own families where one of its bodies calls.
        system = text("unit a { } unit b { call a } unit c { call b }")
        self.judged(TooMany, [257], system, {"b": nine, "c": (("call", "b"),)}, ())
        self.judged(TooMany, [257], system, {"b": nine, "c": rows + (("call", "b"),)}, ())
        self.judged(TooMany, [257], system, {"a": nine, "b": (("call", "a"),), "c": ()}, ())
        # Then door by door: the published unit, and the body itself.
        self.assertEqual(bundle_paper(system, {"b": nine, "c": ()}, ())[0], "yes")
        system = text(f"unit a {{ }} unit b {{ {many} }} unit c {{ call a call b }}")
        self.judged(TooMany, [257], system, {"b": rows}, ())
        self.judged(TooMany, [25], system, {"a": rows, "b": ()}, ())
        self.judged(TooMany, [257], system, {"b": (), "a": ()}, ())

    def test_too_rich_and_too_great(self):
        rich = "choose p1 a { set x = 0 } or b { draw x 0 by 1 1 by 1 } or c { set x = 1 } "
        rich += "choose p1 a { } or b { draw x 2 by 1 3 by 1 } or c { set x = 4 } "
        ten = body_from(rich, "name x 6")
        # Ten sets of the side in "S" are ten lots of a set in "T", and the other way round for the rest.
        system = text("unit a { } unit b { call a } unit c { call b }", "name x 6")
        self.judged(TooRich, ["b", 0, (), 10], system, {"b": ten, "c": (("call", "b"),)}, ())
        calls = (("call", "a"),)
        published = with_body(system, "a", ten)
        self.judged(TooRich, ["a", 0, (1,), 10], published, {"c": (("call", "b"),)}, (1,))
        self.judged(TooRich, ["a", 0, (), 10], with_body(published, "b", ()), {"c": calls}, ())
        self.judged(TooRich, ["a", 0, (), 10], published, {"b": calls}, ())
        # Where it is a door alone, which is called by none of the bundle, it may be rich.
        self.assertIn(bundle_paper(system, {"c": ten}, ())[0], ("yes", "no"))
        part = "if x = 1 { draw x 0 by 1 1 by 12 } else { } " * 10
        system = text(f"unit a {{ {part} }} unit b {{ }} unit c {{ call b }}")
        four = (("call", "a"),) * 4
        self.judged(TooGreat, ["b", 1], system, {"b": four}, ())
        self.judged(TooGreat, ["c", 1], system, {"c": four}, ())
        self.judged(TooGreat, ["b", 1], system, {"b": four, "c": (("call", "b"),)}, ())


class Follows(Case):
    def test_no_less_value(self):
        """In the system with all bodies of a bundle that is let by, no value is smaller, but by inner units."""
        count = 0
        for rng, system, bodies, side in bundles(130, 400):
            paper = quiet(bundle_paper, system, bodies, side)
            if paper is None or paper[0] == "no":
                continue
            new = system
            for unit, body in bodies.items():
                new = quiet(with_body, new, unit, body) or new
            for unit in unit_names(system):
                if unit in bodies and unit not in doors(system, bodies):
                    continue
                store = rng.randrange(len(space_of(system)))
                payoff = [rng.randint(-3, 3) for _ in range(len(space_of(system)) + 1)]
                pair = [quiet(value, one, unit, store, side, payoff) for one in (system, new)]
                if None not in pair:
                    count += 1
                    self.assertFalse(pair[1].below(pair[0]))
        self.assertGreater(count, 150)

    def test_one_body_alone(self):
        """A bundle of one body is judged as this body."""
        for rng, system, bodies, side in bundles(1281, 200):
            if len(bodies) > 1:
                continue
            unit, body = list(bodies.items())[0]
            paper = quiet(paper_for, system, unit, body, side)
            if paper is None:
                self.assertIsNone(quiet(bundle_paper, system, bodies, side))
                continue
            want = ("yes", [(unit, paper[1])]) if paper[0] == "yes" else ("no", unit, *paper[1:])
            self.assertEqual(bundle_paper(system, bodies, side), want)
            self.assertEqual(len(families(system, unit, side, "S")), len(space_of(system)))


if __name__ == "__main__":
    unittest.main()

"""Tests of evenpatch.meets."""

import random
import unittest

from brute import Plain, quiet, web_over
from helpers import Case, distance_of, fraction, mean_of, mixture, shares_of, strange
from second import Small, small_body, small_system

from evenpatch.bodies import walked
from evenpatch.checks import body_of, space_of, unit_names, with_body
from evenpatch.errors import (Apart, InvalidBody, InvalidSide, InvalidSystem, InvalidUnit, NotFair, TooGreat,
                              TooMany, TooRich)
from evenpatch.meets import harm, harm_paper, is_harm_paper, is_paper_for, paper_for, stands_for
from evenpatch.nearest import common, distance, is_common
from evenpatch.parties import sides
from evenpatch.plans import families, value
from evenpatch.ratios import Ratio
from evenpatch.texts import read_system

CALLS = [(stands_for, ()), (paper_for, ()), (harm, ()), (harm_paper, ()), (is_paper_for, (None,)), (is_harm_paper, (None,))]


def text(units, names="name x 2", parties=2):
    return read_system(f"parties {parties} {names} {units}")


def body_from(source, names="name x 2", parties=2):
    return text(f"unit made {{ {source} }}", names, parties)[2][0][1]


def bodies(seed, count):
    """Random units of random systems with a second body for each, and a side, for which all can be asked."""
    rng = random.Random(seed)
    found = 0
    while found < count:
        system = small_system(rng)
        names = unit_names(system)
        unit = rng.choice(names)
        body = small_body(rng, system[0], system[1], names[:names.index(unit)], rng.randint(1, 5))
        if rng.random() < 0.4:
            body = changed(rng, system, unit)
        side = rng.choice(sides(system[0]))
        if quiet(stands_for, system, unit, body, side) is not None:
            found += 1
            yield rng, system, unit, body, side


def changed(rng, system, unit):
    """The body of a unit with one more label, one label less, or other weights somewhere."""
    body = body_of(system, unit)
    places = [(path, one) for path, one in walked(body, ()) if one[0] in ("choose", "draw", "spin")]
    if not places:
        return body
    path, one = rng.choice(places)
    if one[0] == "choose":
        pairs = one[2]
        if len(pairs) == 3:
            pairs = pairs[:1] + pairs[2:]
        else:
            pairs += (("more", small_body(rng, system[0], system[1], [], 1)),)
        one = (*one[:2], pairs)
    else:
        pairs = one[-1]
        one = (*one[:-1], ((pairs[0][0], rng.randint(1, 12)), *pairs[1:]))
    return put(body, path, (one,))


def put(body, path, statements):
    """A body with statements in the place of the one with a path."""
    at = path[0]
    if len(path) == 1:
        return (*body[:at], *statements, *body[at + 1:])
    one = body[at]
    if one[0] == "choose":
        pairs = [(label, put(inner, path[2:], statements) if k == path[1] else inner)
                 for k, (label, inner) in enumerate(one[2])]
        one = (*one[:2], tuple(pairs))
    else:
        inner = [put(inner, path[2:], statements) if k == path[1] else inner for k, inner in enumerate(one[2:])]
        one = (*one[:2], *inner)
    return (*body[:at], one, *body[at + 1:])


def sets_and_counters(system, unit, body, side):
    return families(system, unit, side, "S"), families(with_body(system, unit, body), unit, side, "T")


class Judged(Case):
    """What is returned, against Python's own fractions, and what judges tell of it."""

    def test_against_common_lots_and_distances(self):
        kinds = {True: 0, False: 0}
        for rng, system, unit, body, side in bodies(92, 350):
            offers, counters = sets_and_counters(system, unit, body, side)
            lets, harms = [], []
            for one, other in zip(offers, counters):
                numbers = [distance(lots, others)[0] for lots in one for others in other]
                harms.append(max(fraction(number) for number in numbers))
                lets.append(all(self.meet(lots, others) for lots in one for others in other))
            is_let = stands_for(system, unit, body, side)
            kinds[is_let] += 1
            self.assertIs(is_let, all(lets))
            found = harm(system, unit, body, side)
            self.assertEqual(self.assert_ratios(found), harms)
            self.assertEqual(is_let, max(harms) == 0)
            self.check_paper(rng, system, unit, body, side, lets, offers, counters)
            self.check_harms(rng, system, unit, body, side, harms, offers, counters)
        self.assertGreater(min(kinds.values()), 60)

    def meet(self, lots, others):
        try:
            common(lots, others)
        except Apart:
            return False
        return True

    def plains(self, system, unit, body, side, store):
        net = web_over(system, unit, side, "S")
        other = web_over(with_body(system, unit, body), unit, side, "T")
        return Plain(net, net.first(store)), Plain(other, other.first(store))

    def check_paper(self, rng, system, unit, body, side, lets, offers, counters):
        paper = paper_for(system, unit, body, side)
        judge = lambda one: is_paper_for(system, unit, body, side, one)
        self.assertEqual(paper, paper_for(system, unit, body, side))
        self.assertIs(judge(paper), True)
        if all(lets):
            self.assertEqual(paper[0], "yes")
            for one, other, rows in zip(offers, counters, paper[1]):
                pairs = [(i, j) for i in range(len(one)) for j in range(len(other))]
                self.assertEqual([row[:2] for row in rows], pairs)
                for i, j, shares, others in rows:
                    self.assertTrue(is_common(one[i], other[j], (shares, others)))
            self.spoil_pairs(rng, judge, paper)
            return
        self.assertEqual(paper[0], "no")
        _, store, plan, payoff, answer = paper
        self.assertEqual(store, lets.index(False))
        self.assert_payoff(payoff, len(offers) + 1)
        plain, counter = self.plains(system, unit, body, side, store)
        low = min(mean_of(lot, payoff) for lot in plain.lots(plan))
        high = max(mean_of(lot, payoff) for lot in counter.lots(answer))
        self.assertGreater(low, high)
        # What the enemy's answer brings is less than what the plan forces, and so is the value.
        new = with_body(system, unit, body)
        self.assertTrue(value(new, unit, store, side, payoff).below(value(system, unit, store, side, payoff)))
        for _ in range(4):
            changed = self.other_attack(rng, paper, plain, counter, len(offers))
            if changed[1] == store:
                low = min(mean_of(lot, changed[3]) for lot in plain.lots(changed[2]))
                high = max(mean_of(lot, changed[3]) for lot in counter.lots(changed[4]))
                self.assertIs(judge(changed), low > high)
            else:
                self.assertIn(judge(changed), (True, False))
        self.assertIs(judge(("no", store, plan, [-item for item in payoff], answer)), False)

    def other_attack(self, rng, paper, plain, counter, many):
        word, store, plan, payoff, answer = paper
        kind = rng.randrange(4)
        if kind == 0:
            plan = rng.choice(plain.plans())
        elif kind == 1:
            answer = rng.choice(counter.plans())
        elif kind == 2:
            payoff = [item + rng.randint(-1, 1) for item in payoff]
        else:
            store = rng.randrange(many)
        return word, store, plan, payoff, answer

    def spoil_pairs(self, rng, judge, paper):
        """A yes with one pair left out, doubled, in another order, or with other shares."""
        word, papers = paper
        at = rng.randrange(len(papers))
        rows = papers[at]
        change = lambda new: (word, [*papers[:at], new, *papers[at + 1:]])
        self.assertIs(judge(change(rows[1:])), False)
        self.assertIs(judge(change(rows + rows[-1:])), False)
        if len(rows) > 1:
            self.assertIs(judge(change(rows[::-1])), False)
        self.assertIs(judge((word, papers[1:])), False)
        self.assertIs(judge((word, papers + papers[-1:])), False)
        self.assertIs(judge((word, tuple(tuple(one) for one in papers))), True)
        i, j, shares, others = rows[-1]
        last = lambda *row: change([*rows[:-1], row])
        self.assertIs(judge(last(i, j, tuple(shares), tuple(others))), True)
        self.assertIs(judge(last(i + 1, j, shares, others)), False)
        self.assertIs(judge(last(i, j, shares, others, 0)), False)
        self.assertIs(judge(last(i, j, shares)), False)
        self.assertIs(judge(last(i, j + 1, shares, others)), False)
        self.assertIs(judge(last(Ratio(i), j, shares, others)), False)
        self.assertIs(judge(last(i, j, shares, [item * 2 for item in others])), False)
        self.assertIs(judge(last(i, j, [*shares, 0], others)), False)
        self.assertIs(judge(change([*rows[:-1], list(rows[-1])])), False)

    def check_harms(self, rng, system, unit, body, side, harms, offers, counters):
        papers = harm_paper(system, unit, body, side)
        judge = lambda one: is_harm_paper(system, unit, body, side, one)
        self.assertEqual(papers, harm_paper(system, unit, body, side))
        self.assertIs(judge(papers), True)
        self.assertEqual([fraction(item[0]) for item in papers], harms)
        new = with_body(system, unit, body)
        for store, (number, plan, answer, payoff, pairs) in enumerate(papers):
            self.assert_payoff(payoff, len(harms) + 1)
            self.assertGreaterEqual(min(payoff), 0)
            self.assertGreater(max(payoff), 0)
            plain, counter = self.plains(system, unit, body, side, store)
            low = min(mean_of(lot, payoff) for lot in plain.lots(plan))
            high = max(mean_of(lot, payoff) for lot in counter.lots(answer))
            self.assertEqual(low - high, fraction(number) * max(payoff))
            for i, j, shares, others in pairs:
                gap = distance_of(mixture(offers[store][i], shares), mixture(counters[store][j], others))
                self.assertLessEqual(gap, fraction(number))
            lost = value(system, unit, store, side, payoff) - value(new, unit, store, side, payoff)
            self.assertEqual(fraction(lost), harms[store] * max(payoff))
            some = [rng.randint(-4, 4) for _ in payoff]
            lost = value(system, unit, store, side, some) - value(new, unit, store, side, some)
            self.assertLessEqual(fraction(lost), harms[store] * (max(some) - min(some)))
        self.spoil_harms(rng, judge, papers)

    def spoil_harms(self, rng, judge, papers):
        at = rng.randrange(len(papers))
        number, plan, answer, payoff, pairs = papers[at]
        change = lambda *item: [*papers[:at], item, *papers[at + 1:]]
        self.assertIs(judge(tuple(papers)), True)
        self.assertIs(judge(change(number, plan, answer, tuple(payoff), tuple(pairs))), True)
        self.assertIs(judge(change(number, plan, answer, [item * 3 for item in payoff], pairs)), True)
        for other in (number + Ratio(1, 100), number - Ratio(1, 100), None, True, str(number)):
            self.assertIs(judge(change(other, plan, answer, payoff, pairs)), False)
        self.assertIs(judge(change(number, (*plan, 0), answer, payoff, pairs)), False)
        self.assertIs(judge(change(number, plan, (*answer, 0), payoff, pairs)), False)
        self.assertIs(judge(change(number, plan, answer, [0] * len(payoff), pairs)), False)
        self.assertIs(judge(change(number, plan, answer, [item - 1 - max(payoff) for item in payoff], pairs)), False)
        self.assertIs(judge(change(number, plan, answer, payoff, pairs[1:])), False)
        self.assertIs(judge(change(number, plan, answer, payoff, [*pairs[:-1], (*pairs[-1][:3], [])])), False)
        self.assertIs(judge(change(number, plan, answer, payoff)), False)
        self.assertIs(judge(papers[1:]), False)
        self.assertIs(judge([list(item) for item in papers]), False)

    def test_other_papers(self):
        """Papers by other attacks, other shares and other payoffs are taken, too."""
        system = text("unit toss { choose p1 low { set x = 0 } or high { set x = 1 } }")
        coin = body_from("draw x 0 by 1 1 by 1")
        for store in (0, 1):
            for plan, payoff, want in [((0,), [1, 0, 0], True), ((1,), [0, 3, -9], True), ((1,), [1, 0, 0], False),
                                       ((0,), [10 ** 3000, 0, 0], True), ((0,), [1, 0, 10 ** 3000], True),
                                       ((0,), (1, 0, 0), True), ([0], [1, 0, 0], False), ((0,), [1, 0], False),
                                       ((0,), [1, 0, True], False), ((0,), [1, 0, Ratio(0)], False), ((2,), [1, 0, 0], False)]:
                self.assertIs(is_paper_for(system, "toss", coin, (1,), ("no", store, plan, payoff, ())), want)
        for value_ in [("no", 2, (0,), [1, 0, 0], ()), ("no", True, (0,), [1, 0, 0], ()), ["no", 0, (0,), [1, 0, 0], ()],
                       ("no", 0, (0,), [1, 0, 0], []), ("no", 0, (0,), [1, 0, 0]), ("yes", []), ("yes", [[], []]), ("no",)]:
            self.assertIs(is_paper_for(system, "toss", coin, (1,), value_), False)
        back = text("unit toss { draw x 0 by 1 1 by 1 }")
        choice = body_from("choose p2 low { set x = 0 } or high { draw x 0 by 1 1 by 1 } or top { set x = 1 }")
        # One lot is mixed of the counter's three in many ways, of which only some are of corners.
        for shares in ([1], [Ratio(1)], (1,)):
            for others, want in [([0], False), ([Ratio(1, 2), Ratio(1, 2)], False)]:
                rows = [(0, 0, shares, others)] * 3
                self.assertIs(is_paper_for(back, "toss", choice, (2,), ("yes", [rows, rows])), want)
        rows = [(0, 0, [1], [Ratio(1, 2), Ratio(1, 2)])]
        self.assertIs(is_paper_for(back, "toss", body_from("choose p1 a { set x = 0 } or b { set x = 1 }"), (1,),
                                   ("yes", [rows, rows])), True)

    def test_any_values(self):
        system = text("unit toss { choose p1 low { set x = 0 } or high { set x = 1 } }")
        for source in ("draw x 0 by 1 1 by 1", "choose p1 a { set x = 0 } or b { set x = 1 } or c { }"):
            body = body_from(source)
            paper = paper_for(system, "toss", body, (1,))
            harms = harm_paper(system, "toss", body, (1,))
            for wrong in strange():
                self.assertIs(is_paper_for(system, "toss", body, (1,), wrong), False)
                self.assertIs(is_harm_paper(system, "toss", body, (1,), wrong), False)
                for at in range(len(paper)):
                    one = (*paper[:at], wrong, *paper[at + 1:])
                    self.assertIs(is_paper_for(system, "toss", body, (1,), one), at == 4 and wrong == () == paper[4])
                for at in range(5):
                    item = (*harms[0][:at], wrong, *harms[0][at + 1:])
                    if wrong != harms[0][at]:
                        self.assertIs(is_harm_paper(system, "toss", body, (1,), [item, harms[1]]), False)
                self.assertIs(is_harm_paper(system, "toss", body, (1,), [harms[0], wrong]), False)
                if paper[0] == "yes":
                    for at in range(4):
                        row = (*paper[1][0][0][:at], wrong, *paper[1][0][0][at + 1:])
                        one = ("yes", [[row, *paper[1][0][1:]], paper[1][1]])
                        self.assertIs(is_paper_for(system, "toss", body, (1,), one), False)

    def test_new_lists(self):
        system = text("unit toss { set x = 0 }")
        for call in (paper_for, harm_paper):
            first = call(system, "toss", (), (1,))
            again = call(system, "toss", (), (1,))
            rows = first[1] if call is paper_for and first[0] == "yes" else first
            self.assertEqual(first, again)
            if isinstance(rows, list):
                rows[0][4].clear() if call is harm_paper else None
                rows.clear()
            self.assertEqual(call(system, "toss", (), (1,)), again)
        found = harm(system, "toss", (), (1,))
        found.clear()
        self.assertEqual([str(item) for item in harm(system=system, unit="toss", body=(), side=(1,))], ["0", "1"])
        yes = paper_for(system, "toss", body_from("set x = 2"), ())
        lists = [part for rows in yes[1] for row in rows for part in row[2:]] + list(yes[1])
        self.assertEqual(len({id(one) for one in lists}), len(lists))


class Asked(Case):
    def setUp(self):
        self.system = text("unit toss { choose p1 a { } or b { set x = 1 } } unit game { call toss }")
        self.body = body_from("draw x 0 by 1 1 by 1")

    def test_order(self):
        loose = (("call", "game"),)
        for call, more in CALLS:
            self.refused(InvalidSystem, [7], call, 7, "x", 3, 4, *more)
            self.refused(NotFair, ["twice", None, "x"], call, (2, (("x", 2),), (("x", ()),)), 1, 3, 4, *more)
            self.refused(InvalidUnit, ["x"], call, self.system, "x", 3, 4, *more)
            self.refused(InvalidBody, [3], call, self.system, "toss", 3, 4, *more)
            self.refused(NotFair, ["call", "toss", "game"], call, self.system, "toss", loose, 4, *more)
            self.refused(InvalidSide, [4], call, self.system, "toss", self.body, 4, *more)
            side = (3,)
            self.refused(InvalidSide, [side], call, self.system, "toss", self.body, side, *more)

    def test_any_values(self):
        for call, more in CALLS:
            for wrong in strange():
                self.refused(InvalidUnit, [wrong], call, self.system, wrong, self.body, (1,), *more)
                if wrong != ():
                    self.refused(InvalidBody, [wrong], call, self.system, "toss", wrong, (1,), *more)
                    self.refused(InvalidSide, [wrong], call, self.system, "toss", self.body, wrong, *more)

    def test_what_families_raise(self):
        many = "choose p1 a { } or b { } " * 9
        nine = body_from(many)
        rows = "choose p1 a { set x = 0 } or b { set x = 1 } " + "draw x 0 by 1 1 by 1 " * 12
        rows_body = body_from(rows)
        bad = text(f"unit toss {{ {many} }} unit game {{ }}")
        worse = text(f"unit toss {{ {rows} }} unit game {{ }}")
        rich = "choose p1 a { set x = 0 } or b { draw x 0 by 1 1 by 1 } or c { set x = 1 } "
        rich += "choose p1 a { } or b { draw x 2 by 1 3 by 1 } or c { set x = 4 } "
        ten = text("unit toss { " + rich + "} unit game { } unit last { call toss }", "name x 6")
        for call, more in CALLS:
            self.refused(TooMany, [257], call, bad, "toss", (), (1,), *more)
            self.refused(TooMany, [25], call, worse, "toss", nine, (1,), *more)
            self.refused(TooMany, [257], call, self.system, "toss", nine, (1,), *more)
            self.refused(TooMany, [25], call, self.system, "toss", rows_body, (1,), *more)
            # Called units come ahead of the unit, those of the published body ahead of those of the new one.
            self.refused(TooMany, [257], call, bad, "game", (("call", "toss"),), (1,), *more)
            self.refused(TooMany, [25], call, with_body(worse, "game", (("call", "toss"),)), "game", nine, (1,), *more)
            # A unit that is not called may be rich; one that is called may not.
            if call is not is_paper_for and call is not is_harm_paper:
                call(ten, "toss", (), (1,))
            self.refused(TooRich, ["toss", 0, (1,), 10], call, ten, "last", (), (1,), *more)
            self.refused(TooRich, ["toss", 0, (), 10], call, ten, "game", (("call", "toss"),), (), *more)

    def test_too_great(self):
        part = "unit a { " + "if x = 1 { draw x 0 by 1 1 by 12 } else { } " * 10 + "} "
        system = text(part + "unit b { call a call a call a call a } unit c { }")
        calls = (("call", "a"),) * 4
        for call, more in CALLS:
            self.refused(TooGreat, ["b", 1], call, system, "b", (), (1,), *more)
            self.refused(TooGreat, ["c", 1], call, system, "c", calls, (1,), *more)


class Follows(Case):
    def test_the_published_body(self):
        rng = random.Random(99)
        for _ in range(150):
            system = small_system(rng)
            unit = rng.choice(unit_names(system))
            for side in sides(system[0]):
                self.assertIn(quiet(stands_for, system, unit, body_of(system, unit), side), (True, None))

    def test_harms_add(self):
        count = 0
        for rng, system, unit, body, side in bodies(991, 250):
            names = unit_names(system)
            other = small_body(rng, system[0], system[1], names[:names.index(unit)], 4)
            new = quiet(with_body, system, unit, body)
            first = quiet(harm, system, unit, body, side)
            second = quiet(harm, new, unit, other, side)
            both = quiet(harm, system, unit, other, side)
            if None not in (first, second, both):
                count += 1
                for one, two, sum_ in zip(first, second, both):
                    self.assertFalse((one + two).below(sum_))
        self.assertGreater(count, 150)

    def test_one_statement(self):
        """Each of the changes of which the document tells that they are let by."""
        kinds = {}
        rng = random.Random(992)
        while len(kinds) < 10 or min(kinds.values()) < 12:
            system = small_system(rng, many=rng.randint(1, 2))
            unit = rng.choice(unit_names(system))
            side = rng.choice(sides(system[0]))
            places = walked(body_of(system, unit), ())
            for path, one in places:
                for kind, statements in self.changes(rng, system, side, one):
                    body = put(body_of(system, unit), path, statements)
                    found = quiet(stands_for, system, unit, body, side)
                    if found is not None:
                        kinds[kind] = kinds.get(kind, 0) + 1
                        self.assertIs(found, True, (kind, system, unit, path, statements, side))

    def changes(self, rng, system, side, one):
        kind = one[0]
        maker = Small(rng, system[0], system[1], [], 2)
        if kind == "choose":
            mine = one[1] in side
            if mine and len(one[2]) == 2:
                yield "more", ((*one[:2], one[2] + (("extra", maker.body(0, 0)),)),)
            if not mine:
                if len(one[2]) == 3:
                    yield "less", ((*one[:2], one[2][1:]),)
                yield "only", rng.choice(one[2])[1]
                if side:
                    yield "ours", ((kind, rng.choice(side), one[2]),)
            yield "labels", ((*one[:2], tuple((f"l{label}"[:1] + "abc"[k], inner) for k, (label, inner) in
                                              enumerate(one[2]))),)
            yield "order", ((*one[:2], one[2][::-1]),)
        if kind in ("draw", "spin"):
            name, pairs = one[-2], one[-1]
            if side:
                labels = tuple(("abc"[k], (("set", name, ("num", v)),)) for k, (v, _) in enumerate(pairs))
                yield "pick", (("choose", rng.choice(side), labels),)
            if kind == "spin" and one[1] not in side:
                some = rng.sample([v for v, _ in pairs], rng.randint(2, len(pairs)))
                yield "drawn", (("draw", name, tuple((v, rng.randint(1, 12)) for v in some)),)
        if kind == "while":
            yield "unrolled", (("if", one[1], (*one[2], one), ()),)
        if kind == "if" and one[3] == () and one[2] and one[2][-1] == ("while", one[1], one[2][:-1]):
            yield "rolled", (one[2][-1],)
        if kind == "while":
            yield "rolled", (one,)

    def test_rolling_back(self):
        loop = "while x = 0 { choose p2 a { set x = 1 } or b { draw x 0 by 1 1 by 1 } }"
        inner = loop[loop.index("{") + 1:-1]
        once = text("unit game { if x = 0 { " + inner + loop + " } else { } }")
        rolled = body_from(loop)
        for side in sides(2):
            self.assertIs(stands_for(once, "game", rolled, side), True)
            self.assertIs(stands_for(with_body(once, "game", rolled), "game", body_of(once, "game"), side), True)

    def test_all_units_at_once(self):
        count = 0
        rng = random.Random(993)
        while count < 120:
            system = small_system(rng, many=rng.randint(2, 3))
            side = rng.choice(sides(system[0]))
            names = unit_names(system)
            new = system
            taken = 0
            for at, unit in enumerate(names):
                for _ in range(6):
                    body = changed(rng, system, unit) if rng.random() < 0.6 else \
                        small_body(rng, system[0], system[1], names[:at], 4)
                    if body != body_of(system, unit) and quiet(stands_for, system, unit, body, side):
                        other = quiet(with_body, new, unit, body)
                        if other is not None:
                            new = other
                            taken += 1
                            break
            if taken < 2:
                continue
            count += 1
            for unit in names:
                for store in range(len(space_of(system))):
                    payoff = [rng.randint(-3, 3) for _ in range(len(space_of(system)) + 1)]
                    pair = [quiet(value, one, unit, store, side, payoff) for one in (system, new)]
                    if None not in pair:
                        self.assertFalse(pair[1].below(pair[0]))

    def test_calls_that_cost(self):
        """With k calls of a unit with a harm of at most h the value falls by at most the width times 1 - (1 - h) ** k."""
        rng = random.Random(994)
        count = 0
        while count < 60:
            system = small_system(rng, many=1)
            side = rng.choice(sides(system[0]))
            k = rng.randint(1, 3)
            game = (("call", "last"),) * k
            if rng.random() < 0.5:
                game = (("choose", rng.randint(0, 2), (("a", game), ("b", game[1:]))),)
            system = (*system[:2], (*system[2], ("over", game)))
            body = small_body(rng, system[0], system[1], [], 4)
            found = quiet(harm, system, "last", body, side)
            if found is None:
                continue
            most = max(fraction(item) for item in found)
            new = with_body(system, "last", body)
            payoff = [rng.randint(-3, 3) for _ in range(len(found) + 1)]
            width = max(payoff) - min(payoff)
            for store in range(len(found)):
                pair = [quiet(value, one, "over", store, side, payoff) for one in (system, new)]
                if None not in pair:
                    count += most > 0
                    self.assertLessEqual(fraction(pair[0]) - fraction(pair[1]), width * (1 - (1 - most) ** k))

    def test_distances_by_shares(self):
        system = text("unit toss { draw x 0 by 1 1 by 3 }")
        for source, want in [("draw x 0 by 1 1 by 1", "1/4"), ("set x = 0", "3/4"), ("while yes { }", "1"),
                             ("choose p1 a { set x = 0 } or b { set x = 1 }", "3/4"),
                             ("choose p2 a { set x = 0 } or b { set x = 1 }", "0")]:
            self.assertEqual([str(item) for item in harm(system, "toss", body_from(source), (2,))], [want] * 2)
        self.assertEqual(shares_of((1, 3, 0)), shares_of((2, 6, 0)))

    def test_more_than_sixty_four_lots(self):
        part = "choose p2 a { choose p2 a { draw x 0 by 1 1 by 2 5 by 4 } or b { draw x 2 by 1 3 by 2 5 by 9 } } or b { "
        part += "choose p2 a { draw x 1 by 3 4 by 2 5 by 7 } or b { draw x 0 by 5 3 by 1 5 by 11 } }"
        rest = "if x = 5 { call toss } else { } " * 3
        system = text(f"unit toss {{ {part} }} unit game {{ call toss {rest} }}", "name x 6")
        body = body_of(system, "game")
        self.assertEqual([len(lots) for lots in families(system, "game", (), "S")[0]], [66])
        self.assertEqual(len(families(system, "game", (), "T")[0]), 256)
        self.assertIs(stands_for(system, "game", body, ()), True)
        paper = paper_for(system, "game", body, ())
        self.assertEqual(len(paper[1][0]), 256)
        self.assertIs(is_paper_for(system, "game", body, (), paper), True)
        for source in ("set x = 3", "draw x 0 by 1 1 by 2 5 by 3"):
            new = body_from(source, "name x 6")
            papers = harm_paper(system, "game", new, ())
            self.assertIs(is_harm_paper(system, "game", new, (), papers), True)


if __name__ == "__main__":
    unittest.main()

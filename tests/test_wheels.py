"""Tests of evenpatch.wheels."""

import random
import unittest

from helpers import Case, fraction, mean_of, mixture, shares_of, strange
from second import small_system
from test_registry import tell, text

from evenpatch.checks import space_of, unit_names
from evenpatch.errors import InvalidPromised, InvalidStore, InvalidSystem, InvalidUnit, NotFair, PactError, TooMany
from evenpatch.lots import is_lot
from evenpatch.nearest import common
from evenpatch.parties import sides
from evenpatch.plans import families
from evenpatch.ratios import Ratio
from evenpatch.wheels import Hunt, is_one_lot, one_lot


def sets_at(system, unit, store, promised):
    return [families(system, unit, side, "S")[store] for side in promised]


def is_plain(sets, value):
    """Whether a tuple, of the right kinds throughout, shows what it tells."""
    many = len(sets[0][0][0])
    if value[0] == "yes":
        _, lot, shares = value
        return all(mixture(lots, one) == shares_of(lot) and sum(map(fraction, one)) == 1 and min(map(fraction, one)) >= 0
                   for family, rows in zip(sets, shares) for lots, one in zip(family, rows))
    payoffs = value[1]
    flat = [payoff for rows in payoffs for payoff in rows]
    if any(sum(payoff[at] for payoff in flat) != 0 for at in range(many)):
        return False
    return sum(min(mean_of(lot, payoff) for lot in lots)
               for family, rows in zip(sets, payoffs) for lots, payoff in zip(family, rows)) > 0


class OneLot(Case):
    def test_over_many_systems(self):
        rng = random.Random(157)
        counted = {"yes": 0, "no": 0}
        for _ in range(700):
            system = small_system(rng, many=rng.randint(1, 2), most=9)
            unit = rng.choice(unit_names(system))
            store = rng.randrange(len(space_of(system)))
            promised = sorted(rng.sample(sides(system[0]), rng.choice([1, 1, 2, len(sides(system[0]))])))
            found = tell(one_lot, system, unit, store, promised)
            try:
                sets = sets_at(system, unit, store, promised)
            except PactError as error:
                self.assertEqual(found, (type(error), list(vars(error).values())))
                self.assertEqual(tell(is_one_lot, system, unit, store, promised, None), found)
                continue
            if found[0] is TooMany:
                self.assertEqual(found[1], [sum(map(len, sets))])
                self.assertGreater(found[1][0], 32)
                continue
            counted[found[0]] += 1
            self.form(sets, found)
            self.assertTrue(is_plain(sets, found))
            self.assertTrue(is_one_lot(system, unit, store, promised, found))
            self.assertEqual(str_of(found), str_of(one_lot(system, unit, store, tuple(promised))))
            self.pairs(sets, found)
            for _ in range(4):
                value = changed_value(rng, found)
                self.assertIs(is_one_lot(system, unit, store, promised, value), is_plain(sets, value))
        self.assertGreater(min(counted.values()), 35)

    def form(self, sets, found):
        """Lists of the right kinds and lengths."""
        rows = found[-1]
        self.assertIs(type(rows), list)
        self.assertEqual([len(one) for one in rows], [len(family) for family in sets])
        many = len(sets[0][0][0])
        if found[0] == "yes":
            self.assertTrue(is_lot(many, found[1]))
            for family, told in zip(sets, rows):
                for lots, one in zip(family, told):
                    self.assert_shares(one, len(lots))
        else:
            for told in rows:
                for payoff in told:
                    self.assert_payoff(payoff, many)
        lists = [rows, *rows, *[one for told in rows for one in told]]
        self.assertEqual(len({id(one) for one in lists}), len(lists))

    def pairs(self, sets, found):
        """If one lot lies in all polygons, any two of them have one in common."""
        flat = [lots for family in sets for lots in family]
        if found[0] == "yes":
            for lots in flat:
                common(lots, flat[0])

    def test_hunts_over_lots(self):
        """Polygons of any lots, also such that meet in a single lot, and such of which just any two meet."""
        from helpers import some_lots, lot_from
        rng = random.Random(1572)
        counted = {True: 0, False: 0}
        for at in range(400):
            many = rng.randint(3, 7)
            sets = [some_lots(rng, many, rng.choice([2, 5, 10 ** 15]), rng.randint(1, 8)) for _ in range(rng.randint(1, 8))]
            if at % 2:
                # A lot that is laid into each polygon, at its rim or within.
                middle = some_lots(rng, many, 9, 1)[0]
                for lots in sets:
                    other = rng.choice(lots)
                    far = lot_from([7 * x + (5 * x * sum(other) - y * sum(middle) > 0) for x, y in zip(middle, other)])
                    lots.append(middle if rng.random() < 0.5 else far)
                    lots.append(middle)
            hunt = Hunt(sets)
            hunt.run()
            counted[hunt.lot is not None] += 1
            if hunt.lot is not None:
                self.assertTrue(is_plain([sets], ("yes", hunt.lot, [hunt.shares])))
            else:
                self.assertEqual(at % 2, 0)
                self.assertTrue(is_plain([sets], ("no", [hunt.payoffs()])))
        self.assertGreater(min(counted.values()), 60)

    def test_judging(self):
        system = text("unit toss { choose p1 a { draw x 0 by 1 1 by 3 } or b { draw x 0 by 3 1 by 1 } }")
        right = ("yes", (1, 1, 0), [[[Ratio(1, 2), Ratio(1, 2)]]])
        self.assertTrue(is_one_lot(system=system, unit="toss", store=0, promised=[(2,)], value=right))
        self.assertTrue(is_one_lot(system, "toss", 0, ((2,),), ("yes", (1, 3, 0), (((0, 1),),)))
                        or is_one_lot(system, "toss", 0, ((2,),), ("yes", (1, 3, 0), (((1, 0),),))))
        for wrong in [*strange(), ("yes", [1, 1, 0], right[2]), ("yes", (2, 2, 0), right[2]), ("yes", (1, 1, 0), [[[1, 0]]]),
                      ("yes", (1, 1, 0), [[[Ratio(1, 2)]]]), ("yes", (1, 1, 0), [[[Ratio(1, 2)] * 2] * 2]),
                      ("yes", (1, 1, 0), [right[2][0], right[2][0]]), ("yes", (1, 1, 0), []), [*right], ("no", [[[0, 0, 0]]]),
                      ("no", [[[1, 1, 1]]]), ("no", [[[0, 0]]]), ("yes", (1, 1), right[2]), ("yes", right[2]),
                      (True, (1, 1, 0), right[2]), ("no", []), ("no", [[]])]:
            self.assertIs(is_one_lot(system, "toss", 0, [(2,)], wrong), False)
        found = one_lot(system, "toss", 0, [(1,)])
        self.assertEqual(found[0], "no")
        first, second = found[1][0]
        self.assertEqual([x + y for x, y in zip(first, second)], [0, 0, 0])
        tripled = ("no", (tuple(tuple(3 * item for item in payoff) for payoff in found[1][0]),))
        self.assertTrue(is_one_lot(system, "toss", 0, [(1,)], tripled))
        for wrong in [("no", [[second, first]]), ("no", [[first, [item * 2 for item in second]]]), ("no", [[first]]),
                      ("no", [[[Ratio(item) for item in first], second]]), ("no", [[first, [True, *second[1:]]]]),
                      right, ("no", [[first, second], []]), ["no", found[1]]]:
            self.assertIs(is_one_lot(system, "toss", 0, [(1,)], wrong), False)
        self.assertEqual(one_lot(system=system, unit="toss", store=1, promised=[(1, 2), (2,)])[0], "no")

    def test_bounds(self):
        """32 sets of all sides, equal ones each time, and one more."""
        def nested(leaves):
            parts = [f"draw x 0 by {one} 1 by {other}" for one, other in leaves]
            while len(parts) > 1:
                some, parts = parts[:3], parts[3:]
                parts.append("choose p1 " + " or ".join(f"{word} {{ {part} }}" for word, part in zip("abc", some)))
            return text(f"unit game {{ {parts[0]} }}")
        lots = [(1, by) for by in range(1, 13)]
        system = nested(lots[:8])
        promised = [(), (1,), (1, 2), (2,)]
        self.assertEqual([len(families(system, "game", side, "S")[0]) for side in promised], [1, 8, 8, 1])
        three = (3, *system[1:])
        promised = [side for side in sides(3) if 1 in side]
        for system, count in ((three, 32), ((3, *nested(lots[:9])[1:]), 36)):
            if count == 32:
                self.assertEqual(one_lot(system, "game", 0, promised)[0], "no")
            else:
                self.refused(TooMany, [36], one_lot, system, "game", 0, promised)
                self.refused(TooMany, [36], is_one_lot, system, "game", 0, promised, None)
        self.refused(TooMany, [33], one_lot, (3, *nested(lots[:8])[1:]), "game", 0, [(), *promised])

    def test_errors(self):
        system = text("unit toss { } unit game { }")
        for call, more in ((one_lot, ()), (is_one_lot, (None,))):
            for wrong in strange():
                self.refused(InvalidSystem, [wrong], call, wrong, 1, 2, 3, *more)
                self.refused(InvalidUnit, [wrong], call, system, wrong, 2, 3, *more)
            self.refused(NotFair, ["twice", None, "x"], call, (2, (("x", 2),), (("x", ()),)), 1, 2, 3, *more)
            for wrong in [*strange(), 2, -1, Ratio(0)]:
                self.refused(InvalidStore, [wrong], call, system, "toss", wrong, None, *more)
            for wrong in [*[one for one in strange() if one != ((),)], [(1,), ()], [(1,), (1,)], [[1]], [(3,)], [(True,)], 1]:
                self.refused(InvalidPromised, [wrong], call, system, "toss", 0, wrong, *more)


def str_of(value):
    if isinstance(value, (list, tuple)):
        return [str_of(item) for item in value]
    return str(value)


def changed_value(rng, value):
    """A value of the same kinds with one number changed."""
    if value[0] == "yes":
        kind, lot, shares = value
        rows = [[list(one) for one in told] for told in shares]
        one = rng.choice(rng.choice(rows))
        if len(one) > 1 and rng.random() < 0.7:
            at, other = rng.sample(range(len(one)), 2)
            one[at], one[other] = one[other], one[at]
        return kind, lot, rows
    rows = [[list(payoff) for payoff in told] for told in value[1]]
    payoffs = [payoff for told in rows for payoff in told]
    at = rng.randrange(len(payoffs[0]))
    one, other = rng.choice(payoffs), rng.choice(payoffs)
    step = rng.randint(1, 3)
    one[at] += step
    if rng.random() < 0.8:
        other[at] -= step
    return value[0], rows


if __name__ == "__main__":
    unittest.main()

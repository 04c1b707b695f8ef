"""Tests of evenpatch.means."""

import random
import unittest
from fractions import Fraction

from brute import quiet
from frames import mean_behind_of, plan_count, values_and_ranks
from helpers import Case, fraction, lot_from, mixture, shares_of, strange
from second import any_answer, small_system
from test_house import net_of, text
from test_registry import exchange_some, some_sides, tell

from evenpatch.checks import space_of, unit_names
from evenpatch.errors import InvalidPlan, InvalidSide, InvalidStore, NotAsked, TooMany
from evenpatch.house import House
from evenpatch.means import Leader
from evenpatch.plans import corners_by
from evenpatch.points import is_nearest_point
from evenpatch.ratios import Ratio
from evenpatch.registry import Registry

TOSS = "choose p1 toss { draw x 0 by 1 1 by 1 } or low { set x = 0 } or high { set x = 1 }"


def some_plan(rng, system, store, side):
    """A plan of the last unit, with whatever indices it takes."""
    unit = unit_names(system)[-1]
    for length in range(5):
        plan = tuple(rng.choice([0, 0, 1]) for _ in range(length))
        if quiet(corners_by, system, unit, store, side, "S", plan):
            return plan
    return None


def some_leader(rng):
    while True:
        system = small_system(rng, many=rng.randint(1, 2), most=6)
        registry = quiet(Registry, system, some_sides(rng, system[0]))
        if registry is None:
            continue
        side = rng.choice(registry.promised())
        store = rng.randrange(registry.space.never)
        plan = some_plan(rng, system, store, side)
        leader = None if plan is None else quiet(Leader, House(registry), side, store, plan)
        if leader is not None:
            return system, leader


def lead(rng, leader, most=80):
    """Plays the current session, the side by the labels; whether it has ended."""
    for _ in range(most):
        session = leader.led()[-1]
        asked = leader.house.asks(session)
        if asked[0] == "over":
            return True
        label = leader.label()
        if (label is not None) != (asked[0] == "choose" and asked[1] in leader.side):
            raise AssertionError("a label in the wrong place")
        leader.house.step(session, label or any_answer(rng, asked))
    return False


class Leaders(Case):
    def test_means_points_and_aims(self):
        rng = random.Random(173)
        ended = 0
        for _ in range(120):
            system, leader = some_leader(rng)
            many = len(space_of(system)) + 1
            corners = corners_by(system, unit_names(system)[-1], leader.store, leader.side, "S", leader.plan)
            self.assertEqual(leader.polygon(), corners)
            self.assertTrue(all(lot[-1] == 0 for lot in corners))
            self.assertEqual([leader.label(), leader.aim(), leader.led(), leader.ends()], [None, [0] * many, [], []])
            ends = []
            for at in range(rng.randint(1, 6)):
                for call in (leader.mean, leader.point, leader.square):
                    if not ends:
                        self.refused(NotAsked, [], call)
                self.assertEqual(leader.begin(), at)
                self.assertEqual(leader.led(), list(range(at + 1)))
                self.assertEqual([fraction(one) for one in leader.house.start_of(at)[2]], [0] * len(leader.house.registry.promised()))
                self.assertEqual(leader.house.start_of(at)[0], leader.store)
                if not lead(rng, leader):
                    self.refused(NotAsked, [], leader.begin)
                    break
                ends.append(leader.house.store_now(at))
                ended += 1
                self.same(leader, ends, many, corners)
                self.assertIsNone(leader.label())
        self.assertGreater(ended, 150)

    def same(self, leader, ends, many, corners):
        self.assertEqual(leader.ends(), ends)
        mean = lot_from([ends.count(at) for at in range(many)])
        self.assertEqual(leader.mean(), mean)
        lot, shares = leader.point()
        found = self.assert_shares(shares, len(corners))
        self.assertEqual(mixture(corners, found), shares_of(lot))
        if len(corners) <= 64:
            self.assertTrue(is_nearest_point(corners, mean, shares))
        ahead = [x - y for x, y in zip(shares_of(lot), shares_of(mean))]
        self.assertIs(type(leader.square()), Ratio)
        self.assertEqual(fraction(leader.square()), sum(x * x for x in ahead))
        aim = leader.aim()
        self.assert_payoff(aim, many)
        self.assertEqual(aim[-1], 0)
        self.assertEqual([x > 0 for x in aim], [x > 0 for x in ahead])
        if any(ahead):
            self.assertEqual(lot_from([abs(x) for x in aim]), tuple(abs(x) for x in aim))
            at = next(k for k in range(many) if ahead[k])
            self.assertEqual([x * ahead[at] for x in aim], [aim[at] * x for x in ahead])
        else:
            self.assertEqual(aim, [0] * many)
        leader.aim().clear()
        leader.polygon().clear()
        leader.point()[1].clear()
        leader.led().clear()
        leader.ends().clear()
        self.assertEqual(leader.aim(), aim)

    def test_labels_by_all_plans(self):
        """The label is that of a guide by tuples of two items, the end of the session ahead of all."""
        rng = random.Random(174)
        asked_for = 0
        while asked_for < 160:
            system, leader = some_leader(rng)
            exchange_some(rng, system, leader.house.registry, 1)
            for _ in range(5):
                leader.begin()
                for _ in range(40):
                    session = leader.led()[-1]
                    asked = leader.house.asks(session)
                    if asked[0] == "over":
                        break
                    label = leader.label()
                    if label is not None:
                        want = self.plain_label(leader, session)
                        if want is not None:
                            asked_for += 1
                            self.assertEqual(label, want)
                    leader.house.step(session, any_answer(rng, asked))
                if leader.house.asks(session)[0] != "over":
                    break

    def plain_label(self, leader, session):
        aim = leader.aim()
        ends = {at: (Fraction(0), Fraction(item)) for at, item in enumerate(aim)}
        never = (Fraction(-1), Fraction(0))
        ends[len(aim) - 1] = never
        frames = leader.house.frames(session)
        for unit, number, place in frames:
            net = net_of(leader.house.registry, unit, number, leader.side, "S")
            if net is None:
                return None
            rows = net.frame_rows(place)
            moves = {row: net.moves(row) for row in rows}
            owners = {row: net.owner(row) for row in rows}
            if plan_count(rows, owners, moves) > 150:
                return None
            values, ranks, _ = values_and_ranks(rows, owners, moves, ends, never)
            worths = {**ends, **values}
            counts = {**{outcome: Fraction(0) for outcome in ends}, **ranks}
            if (unit, number, place) != frames[-1]:
                places = {outcome: net.behind(place, outcome) for outcome in ends}
                ends = {outcome: (*worths[one], -counts[one]) for outcome, one in places.items()}
                never = (*never, Fraction(0))
        behind = [(mean_behind_of(move, {one: (count,) for one, count in counts.items()}), index)
                  for index, move in enumerate(moves[place]) if mean_behind_of(move, worths) == values[place]]
        least = min(rank for rank, _ in behind)
        return leader.house.asks(session)[2][next(index for rank, index in behind if rank == least)]

    def test_the_square(self):
        """Behind n sessions the mean of the square over the wheels is at most 2 divided by n, whatever others do."""
        rng = random.Random(175)
        checked = 0
        for sample in range(200):
            system = small_system(rng, many=rng.randint(1, 2), most=5, names=(("x", rng.choice([2, 3])),))
            promised = some_sides(rng, system[0])
            registry = quiet(Registry, system, promised)
            if registry is None:
                continue
            side = rng.choice(promised)
            store = rng.randrange(registry.space.never)
            plan = some_plan(rng, system, store, side)
            if plan is None or quiet(Leader, House(registry), side, store, plan) is None:
                continue
            for many in (1, 2, 3):
                told = self.mean_of_squares(registry, side, store, plan, many, sample)
                if told is None:
                    break
                checked += 1
                self.assertLessEqual(told, Fraction(2, many))
        self.assertGreater(checked, 150)

    def mean_of_squares(self, registry, side, store, plan, many, seed, most=300):
        """The mean of the square over all wheels, while the others take what hangs on all that has been; None if long."""
        total, waiting, count = Fraction(0), [((), Fraction(1))], 0
        while waiting:
            parts, share = waiting.pop()
            count += 1
            found = self.led_so(registry, side, store, plan, many, parts, seed) if count < most else None
            if found is None:
                return None
            kind, told = found
            if kind == "square":
                total += share * told
            else:
                waiting.extend((((*parts, part), share / told) for part in range(told)))
        return total

    def led_so(self, registry, side, store, plan, many, parts, seed):
        """Leads sessions with these parts of wheels, up to the end or to a wheel for which no part is left."""
        leader = Leader(House(registry), side, store, plan)
        left = list(parts)
        for _ in range(many):
            session = leader.begin()
            for _ in range(40):
                asked = leader.house.asks(session)
                if asked[0] == "over":
                    break
                answer = leader.label()
                if asked[0] == "turn" or (asked[0] == "spin" and asked[1] in side):
                    if not left:
                        return "turn", asked[-1]
                    answer = left.pop(0)
                elif answer is None and asked[0] in ("choose", "spin"):
                    answer = self.enemy(leader, session, asked, seed)
                leader.house.step(session, answer)
            else:
                return None
        return "square", fraction(leader.square())

    def enemy(self, leader, session, asked, seed):
        """What the others take: against the aim in half of the samples, otherwise anything that hangs on the past."""
        answers = asked[2] if asked[0] == "choose" else range(asked[-1])
        if seed % 2:
            return random.Random(f"{seed} {session} {leader.house.lines(session)} {leader.ends()}").choice(list(answers))
        return list(answers)[(len(leader.ends()) + len(leader.house.lines(session))) % len(answers)]

    def test_an_end_comes_first(self):
        """Where a way round for ever is as good by the aim, the side leaves it all the same."""
        loop = "while x = 0 { choose p1 round { } or out { set x = 1 } }"
        house = House(Registry(text("unit game { " + loop + " }"), [(1,)]))
        plan = next(plan for plan in ((0,), (1,)) if quiet(Leader, house, (1,), 0, plan))
        self.assertEqual(plan, (1,))
        self.refused(InvalidPlan, [(0,)], Leader, house, (1,), 0, (0,))
        leader = Leader(house, (1,), 0, (1,))
        leader.begin()
        house.step(0)
        self.assertEqual(leader.label(), "out")

    def test_other_sessions_count_nowhere(self):
        house = House(Registry(text("unit game { " + TOSS + " }"), [(), (1,)]))
        house.begin(0)
        leader = Leader(house=house, side=(1,), store=1, plan=(0,))
        self.assertEqual([leader.house is house, leader.side, leader.store, leader.plan], [True, (1,), 1, (0,)])
        self.assertEqual(leader.begin(), 1)
        other = Leader(house, (), 0, ())
        self.assertEqual(other.begin(), 2)
        for session, label in ((0, "low"), (2, "low"), (1, "high")):
            house.step(session, label)
            house.step(session)
        self.assertEqual([leader.ends(), leader.led(), other.ends(), leader.mean()], [[1], [1], [0], (0, 1, 0)])
        self.assertEqual([leader.aim(), leader.begin(), leader.label()], [[1, -1, 0], 3, "low"])
        self.assertIsNone(other.label())

    def test_the_current_session(self):
        house = House(Registry(text("unit game { " + TOSS + " }"), [(1,)]))
        leader = Leader(house, (1,), 0, (0,))
        for at in range(20):
            self.assertEqual(leader.begin(), at)
            self.refused(NotAsked, [], leader.begin)
            house.step(at, "low")
            self.refused(NotAsked, [], leader.begin)
            house.step(at)
        self.refused(TooMany, [21], leader.begin)
        self.assertEqual([leader.led(), leader.ends(), leader.mean()], [list(range(20)), [0] * 20, (1, 0, 0)])

    def test_errors(self):
        system = text("unit w { choose p1 a { } or b { set x = 1 } } unit game { call w choose p1 c { } or d { while yes { } } }")
        house = House(Registry(system, [(1,), (1, 2)]))
        for wrong in [*strange(), (2,), (3,), [1], (True,), (Ratio(1),)]:
            self.refused(InvalidSide, [wrong], Leader, house, wrong, 9, None)
        for wrong in [*strange(), 2, -1, Ratio(0)]:
            self.refused(InvalidStore, [wrong], Leader, house, (1,), wrong, None)
        plans = [plan for plan in self.all_plans(4, 4) if tell(Leader, house, (1,), 0, plan).__class__ is Leader]
        self.assertGreater(len(plans), 0)
        for plan in plans:
            for wrong in [*strange(), list(plan), (*plan, 0), plan[:-1], (*plan[:-1], 9), (*plan[:-1], -1), (*plan[:-1], False)]:
                self.refused(InvalidPlan, [wrong], Leader, house, (1,), 0, wrong)
        ends = [plan for plan in self.all_plans(4, 4) if quiet(corners_by, system, "game", 0, (1,), "S", plan)
                and max(lot[-1] for lot in corners_by(system, "game", 0, (1,), "S", plan)) > 0]
        self.assertGreater(len(ends), 0)
        for plan in ends:
            self.refused(InvalidPlan, [plan], Leader, house, (1,), 0, plan)
        self.assertEqual(house.sessions(), [])

    def all_plans(self, length, many):
        found = [()]
        for _ in range(length):
            found += [(*plan, index) for plan in found for index in range(many)]
        return sorted(set(found))

    def test_bounds_of_corners(self):
        """What corners_by raises for the plan is raised, in its order."""
        spins = "spin p2 x 0 by 1 1 by 1 " * 9
        house = House(Registry(text("unit game { " + spins + " }"), [(1,)]))
        want = tell(corners_by, house.registry.published(), "game", 0, (1,), "S", ())
        self.assertEqual(want, (TooMany, [257]))
        self.assertEqual(tell(Leader, house, (1,), 0, ()), want)
        self.refused(InvalidPlan, [None], Leader, house, (1,), 0, None)


if __name__ == "__main__":
    unittest.main()

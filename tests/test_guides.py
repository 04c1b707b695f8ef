"""Tests of evenpatch.guides."""

import random
import unittest
from fractions import Fraction

from frames import brought_by, fractions_of, mean_behind_of, plan_count, plans_of, taken_by
from helpers import Case, fraction, strange
from second import any_answer, small_system
from test_house import text
from test_registry import exchange_some, tell
from test_worth import plain_frames, sessions_of, some_payoff

from evenpatch.errors import InvalidPayoff, InvalidSession, InvalidSide, TooRich
from evenpatch.guides import Guide
from evenpatch.house import House
from evenpatch.meets import paper_for
from evenpatch.parties import sides
from evenpatch.pictures import go_on, picture
from evenpatch.registry import Registry
from evenpatch.worth import worth, worth_paper


def answers_to(asked):
    """All answers to a question, with None for what has none."""
    if asked[0] == "choose":
        return list(asked[2])
    if asked[0] in ("turn", "spin"):
        return list(range(asked[-1]))
    return [None]


class States:
    """All states that a session in a house of published editions, or of what stands, can come to from a store."""

    def __init__(self, registry, store, side, payoff, most=60):
        self.registry = registry
        self.side = side
        self.payoff = payoff
        self.start = None
        self.behind = {}
        self.asked = {}
        self.told = {}
        self.is_small = self.explore(store, most)

    def explore(self, store, most):
        waiting = [()]
        while waiting:
            answers = waiting.pop()
            house, session = self.replayed(store, answers)
            state = self.state_of(house, session)
            if self.start is None:
                self.start = state
            if state in self.asked:
                continue
            if len(self.asked) >= most:
                return False
            self.asked[state] = house.asks(session)
            guide = Guide(house, session, self.side, self.payoff)
            self.told[state] = (guide.label(), guide.reply(), fraction(worth(house, session, self.side, self.payoff)))
            if state[0] == "over":
                continue
            self.behind[state] = []
            for answer in answers_to(self.asked[state]):
                other, number = self.replayed(store, (*answers, answer))
                self.behind[state].append((answer, self.state_of(other, number)))
                waiting.append((*answers, answer))
        return True

    def replayed(self, store, answers):
        house = House(self.registry)
        session = house.begin(store)
        for answer in answers:
            house.step(session, answer)
        return house, session

    def state_of(self, house, session):
        if house.asks(session)[0] == "over":
            return "over", house.store_now(session)
        return tuple(house.frames(session)), house.store_now(session)

    def graph(self, fixed):
        """Rows, owners and moves of the states; `fixed` tells the answer at a state, or None where it is free."""
        owners, moves = {}, {}
        for state, pairs in self.behind.items():
            asked = self.asked[state]
            is_wheel = asked[0] == "turn" or (asked[0] == "spin" and asked[1] in self.side) or len(pairs) == 1
            answer = fixed(state)
            if is_wheel:
                counts = {}
                for _, other in pairs:
                    counts[other] = counts.get(other, 0) + 1
                owners[state], moves[state] = "wheel", [list(counts.items())]
            elif answer is not None:
                owners[state], moves[state] = "wheel", [[(dict(pairs)[answer], 1)]]
            else:
                owners[state] = "free"
                moves[state] = [[(other, 1)] for other in dict.fromkeys(other for _, other in pairs)]
        return list(self.behind), owners, moves

    def extremes(self, fixed, pick, most=600):
        """For each state the least, or the greatest, mean by all plans of who is free; None if there are too many."""
        rows, owners, moves = self.graph(fixed)
        if plan_count(rows, owners, moves) > most:
            return None
        ends = {("over", store): (Fraction(item),) for store, item in enumerate(self.payoff[:-1])}
        never = (Fraction(self.payoff[-1]),)
        free = [row for row in rows if owners[row] == "free"]
        tables = [brought_by(rows, taken_by(rows, moves, plan), ends, never) for plan in plans_of(free, moves)]
        return {row: pick(table[row][0] for table in tables) for row in rows}


class Guides(Case):
    def test_what_they_bring(self):
        """While the side takes its labels no less than the worth comes, while the enemy replies no more."""
        rng = random.Random(150)
        counted = [0, 0]
        while min(counted) < 60:
            system = small_system(rng, many=rng.randint(1, 2), most=4)
            promised = [rng.choice(sides(system[0]))]
            registry = tell(Registry, system, promised)
            if not isinstance(registry, Registry):
                continue
            if rng.random() < 0.4:
                exchange_some(rng, system, registry, 2)
            is_published = all(registry.standing(unit) == 0 for unit, _ in system[2])
            payoff = some_payoff(rng, registry.space.never + 1, sum(counted))
            states = States(registry, rng.randrange(registry.space.never), promised[0], payoff)
            if not states.is_small:
                continue
            low = states.extremes(lambda state: states.told[state][0], min)
            if low is not None:
                counted[0] += 1
                for state, number in low.items():
                    self.assertGreaterEqual(number, states.told[state][2])
            high = states.extremes(lambda state: states.told[state][1], max)
            if high is not None and is_published:
                counted[1] += 1
                for state, number in high.items():
                    self.assertLessEqual(number, states.told[state][2])

    def test_the_greatest_item(self):
        """If the worth is the greatest item, each session that ends has it, whatever the wheels show."""
        rng = random.Random(1501)
        count = 0
        for _, house, session in sessions_of(rng, 400, 1):
            for side in house.registry.promised():
                payoff = [rng.randint(0, 1) for _ in range(house.registry.space.never)] + [0]
                if worth(house, session, side, payoff) != max(payoff) or max(payoff) == 0:
                    continue
                guide = Guide(house, session, side, payoff)
                for _ in range(60):
                    asked = house.asks(session)
                    if asked[0] == "over":
                        count += 1
                        self.assertEqual(payoff[house.store_now(session)], 1)
                        break
                    house.step(session, guide.label() or any_answer(rng, asked))
                break
        self.assertGreater(count, 25)

    def test_first_of_the_best(self):
        """The first move that keeps the value with the least rank behind it, by all plans."""
        rng = random.Random(149)
        counted = {"label": 0, "choose": 0, "spin": 0}
        for at, (system, house, session) in enumerate(sessions_of(rng, 500, 10)):
            asked = house.asks(session)
            side = rng.choice(house.registry.promised())
            payoff = some_payoff(rng, house.registry.space.never + 1, at)
            guide = Guide(house, session, side, payoff)
            label, reply = guide.label(), guide.reply()
            is_own = asked[0] == "choose" and asked[1] in side
            is_reply = asked[0] in ("choose", "spin") and asked[1] not in side
            self.assertEqual([label is not None, reply is not None], [is_own, is_reply])
            if not is_own and not is_reply:
                continue
            view = "S" if is_own else "T"
            seen = payoff if is_own else [-item for item in payoff]
            plain = plain_frames(house, session, side, view, seen, 120)
            if plain is None:
                continue
            index = self.best(house, session, side, view, plain)
            if asked[0] == "choose":
                counted["label" if is_own else "choose"] += 1
                self.assertEqual(label if is_own else reply, asked[2][index])
            else:
                counted["spin"] += 1
                unit, number, place = house.frames(session)[-1]
                pairs = statement_at(house.registry.body_at(unit, number), place[0])[-1]
                self.assertEqual(reply, sum(weight for _, weight in pairs[:index]))
        self.assertGreater(min(counted.values()), 40)

    def best(self, house, session, side, view, plain):
        from test_house import net_of
        unit, number, place = house.frames(session)[-1]
        net = net_of(house.registry, unit, number, side, view)
        _, values, ranks, ends = plain[-1]
        worths = {**ends, **values}
        counts = {**{outcome: Fraction(0) for outcome in ends}, **ranks}
        behind = []
        for index, move in enumerate(net.moves(place)):
            if mean_behind_of(move, worths) == values[place]:
                behind.append((mean_behind_of(move, {one: (rank,) for one, rank in counts.items()}), index))
        least = min(rank for rank, _ in behind)
        return next(index for rank, index in behind if rank == least)

    def test_ranks_go_down(self):
        """A label keeps the worth; where the tuple is above never's, the rank behind it is less by 1, otherwise the same."""
        rng = random.Random(1461)
        counted = {0: 0, 1: 0}
        for at, (_, house, session) in enumerate(sessions_of(rng, 500, 12)):
            side = rng.choice(house.registry.promised())
            payoff = some_payoff(rng, house.registry.space.never + 1, at)
            label = Guide(house, session, side, payoff).label()
            if label is None:
                continue
            other = go_on(picture(house))
            number, papers = worth_paper(other, session, side, payoff)
            place = other.frames(session)[-1][2]
            told, rank = (dict(part)[place] for part in papers[-1])
            never = (Fraction(payoff[-1]), *[Fraction(0)] * (len(papers) - 1))
            cost = int(fractions_of(told) > never)
            other.step(session, label)
            self.assertEqual(worth(other, session, side, payoff), number)
            behind = worth_paper(other, session, side, payoff)[1][-1][1]
            new = other.frames(session)[-1][2]
            left = 0 if isinstance(new, int) else fraction(dict(behind)[new])
            self.assertEqual(left, fraction(rank) - cost)
            counted[cost] += 1
        self.assertGreater(min(counted.values()), 20)

    def test_it_goes_on_with_the_session(self):
        system = text("unit game { choose p1 a { } or b { set x = 1 } choose p1 c { } or d { set x = x + 1 } "
                      "choose p2 e { } or f { set x = 2 } }", "name x 3")
        house = House(Registry(system, [(1,)]))
        house.begin(0)
        payoff = [0, 1, 5, 0]
        guide = Guide(house=house, session=0, side=(1,), payoff=payoff)
        payoff[0] = 100
        self.assertEqual([guide.label(), guide.reply()], ["b", None])
        house.step(0, "a")
        self.assertEqual([guide.label(), guide.label(), guide.reply()], ["d", "d", None])
        house.step(0, "d")
        self.assertEqual([guide.label(), guide.reply()], [None, "e"])
        house.step(0, "f")
        self.assertEqual([guide.label(), guide.reply()], [None, None])
        house.step(0)
        self.assertEqual([guide.label(), guide.reply(), house.asks(0)], [None, None, ("over", 2)])

    def test_ranks_count(self):
        """Of labels that keep the worth the one is taken that comes to an end."""
        system = text("unit game { while x = 0 { choose p1 round { } or out { set x = 1 } } }")
        house = House(Registry(system, [(1,)]))
        house.begin(0)
        house.step(0)
        self.assertEqual(Guide(house, 0, (1,), [0, 1, 0]).label(), "out")
        self.assertEqual(Guide(house, 0, (1,), [0, 1, 1]).label(), "round")
        self.assertEqual(Guide(house, 0, (1,), [0, 1, 2]).label(), "round")
        self.assertEqual(Guide(house, 0, (2,), [0, 1, 0]).reply(), "round")
        self.assertEqual(Guide(house, 0, (2,), [0, -1, 0]).reply(), "out")

    def test_an_attack_is_played(self):
        """By the replies for its side and its payoff an attack brings less than its plan forces as published."""
        rng = random.Random(93)
        count = 0
        while count < 25:
            system = small_system(rng, many=2, most=4)
            unit = system[2][0][0]
            other = small_system(rng, many=1, most=4, names=system[1], parties=system[0])[2][0][1]
            side = rng.choice(sides(system[0]))
            paper = tell(paper_for, system, unit, other, side)
            if paper[0] != "no":
                continue
            _, store, _, payoff, _ = paper
            published = tell(Registry, (*system[:2], system[2][:1]), [side])
            changed = tell(Registry, (*system[:2], ((unit, other),)), [side])
            if not isinstance(published, Registry) or not isinstance(changed, Registry):
                continue
            first = House(published)
            forced = worth(first, first.begin(store), side, payoff)
            states = States(changed, store, side, payoff)
            if not states.is_small:
                continue
            high = states.extremes(lambda state: states.told[state][1], max)
            if high is not None:
                count += 1
                most = high[states.start] if states.start in high else payoff[states.start[1]]
                self.assertLess(most, fraction(forced))

    def test_errors(self):
        house = House(Registry(text("unit game { choose p1 a { } or b { } }"), [(1,)]))
        house.begin(0)
        for wrong in [*strange(), 1, "0"]:
            self.refused(InvalidSession, [wrong], Guide, house, wrong, (9,), None)
        for wrong in [*[one for one in strange() if one != ()], (3,), [1]]:
            self.refused(InvalidSide, [wrong], Guide, house, 0, wrong, None)
        for wrong in [*strange(), [1, 2], [1, 2, True]]:
            self.refused(InvalidPayoff, [wrong], Guide, house, 0, (2,), wrong)

    def test_errors_of_frames_come_each_time(self):
        from test_worth import Errors
        unit, count = Errors("test_order").rich_for_both(10)
        house = House(Registry(text(unit + "unit game { choose net on { call u } or off { } draw x 0 by 1 1 by 1 }"), [(1,)]))
        house.begin(0)
        guide = Guide(house, 0, (1, 2), [0, 1, 0])
        for answer in ("off", 0, None):
            for _ in range(2):
                self.refused(TooRich, ["u", 0, (1, 2), count], guide.label)
            self.assertEqual(guide.reply() is None, answer != "off")
            house.step(0, answer)
        self.assertEqual([guide.label(), guide.reply()], [None, None])


def statement_at(body, path):
    """The statement with a path."""
    for at in range(0, len(path), 2):
        if at > 0:
            inner = path[at - 1]
            body = statement[2][inner][1] if statement[0] == "choose" else statement[2 + inner]
        statement = body[path[at]]
    return statement


if __name__ == "__main__":
    unittest.main()

"""Tests of evenpatch.worth, and of the fields behind it."""

import random
import unittest
from fractions import Fraction
from itertools import chain

from brute import quiet
from frames import fractions_of, plan_count, values_and_ranks
from helpers import Case, fraction, strange
from second import any_answer, small_body
from test_house import net_of, text
from test_registry import exchange_some, some_registry, tell

from evenpatch.checks import unit_names
from evenpatch.errors import InvalidPayoff, InvalidSession, InvalidSide, TooRich
from evenpatch.fields import Field
from evenpatch.house import House
from evenpatch.packs import moved_by, numbers_of, pack_of
from evenpatch.parties import sides
from evenpatch.plans import families, value
from evenpatch.ratios import Ratio
from evenpatch.registry import Registry
from evenpatch.worth import held_paper, is_held_paper, is_worth_paper, worth, worth_paper

LEADERS = {"S": "A", "T": "B"}


def some_payoff(rng, many, kind):
    """A payoff with never's item the least one, the greatest one, or anything."""
    stores = [rng.randint(-3, 3) for _ in range(many - 1)]
    never = {0: min(stores) - rng.randint(0, 1), 1: max(stores) + rng.randint(0, 1), 2: rng.randint(-2, 2)}[kind % 3]
    return [*stores, never]


def plain_frames(house, session, side, view, payoff, most=250):
    """For each frame the tuple (rows, values, ranks, ends) by all plans; None if there are too many of them."""
    ends = {outcome: (Fraction(item),) for outcome, item in enumerate(payoff)}
    never = (Fraction(payoff[-1]),)
    found = []
    for unit, number, place in house.frames(session):
        net = net_of(house.registry, unit, number, side, view)
        if net is None:
            return None
        rows = net.frame_rows(place)
        moves = {row: net.moves(row) for row in rows}
        owners = {row: net.owner(row) for row in rows}
        if plan_count(rows, owners, moves) > most:
            return None
        values, ranks, _ = values_and_ranks(rows, owners, moves, ends, never, LEADERS[view])
        found.append((rows, values, ranks, dict(ends)))
        if not isinstance(place, int):
            worths = {**ends, **values}
            counts = {**{outcome: Fraction(0) for outcome in ends}, **ranks}
            if len(place[0]) and (unit, number, place) != house.frames(session)[-1]:
                places = {outcome: net.behind(place, outcome) for outcome in ends}
                ends = {outcome: (*worths[one], -counts[one]) for outcome, one in places.items()}
                never = (*never, Fraction(0))
    return found


def opposite(payoff):
    return [-item for item in payoff]


def sessions_of(rng, count, most_steps=14, many=None):
    """Sessions of many kinds, each in a house with editions: tuples (system, house, session), behind each step."""
    for _ in range(count):
        system, registry = some_registry(rng, many)
        exchange_some(rng, system, registry, rng.randint(0, 3))
        house = House(registry)
        purses = [Ratio(rng.randint(0, 4), 2) for _ in registry.promised()]
        session = house.begin(rng.randrange(registry.space.never), purses)
        for _ in range(most_steps):
            yield system, house, session
            asked = house.asks(session)
            if asked[0] == "over":
                break
            house.step(session, any_answer(rng, asked))


def deep_sessions(rng, count):
    """Sessions with three units that call one another, in loops, too, behind each step."""
    for _ in range(count):
        names = (("x", 2),)
        units = []
        for word, ahead in (("toss", None), ("mid", "toss"), ("game", "mid")):
            body = small_body(rng, 2, names, [], 2)
            if ahead is not None:
                loop = ("while", ("same", ("name", "x"), ("num", rng.randrange(2))), (("call", ahead), *small_body(rng, 2, names, [], 1)))
                body = (rng.choice([("call", ahead), loop]), *body)
            units.append((word, body))
        system = (2, names, tuple(units))
        registry = quiet(Registry, system, [rng.choice(sides(2))])
        if registry is not None:
            house = House(registry)
            session = house.begin(rng.randrange(2))
            for _ in range(10):
                yield system, house, session
                asked = house.asks(session)
                if asked[0] == "over":
                    break
                house.step(session, any_answer(rng, asked))


class FakeWeb:
    """Rows with any moves, as a web has them."""

    def __init__(self, view, owners, moves):
        self.view = view
        self.owners = owners
        self.told = moves

    def frame_rows(self, place):
        return sorted(self.told)

    def moves_of(self, row):
        return self.told[row]

    def owner_of(self, row):
        return self.owners[row]


class Fields(Case):
    def test_any_rows(self):
        """Rows that lead to one another in any way, by tuples of one to three items, against all plans."""
        rng = random.Random(143)
        for _ in range(1200):
            never, many = rng.randint(2, 3), rng.randint(1, 3)
            rows = [((at,), 0) for at in range(rng.randint(1, 5))]
            owners = {row: rng.choice(["A", "B", "wheel"]) for row in rows}
            moves = {row: tuple(self.some_move(rng, rows, never)
                                for _ in range(1 if owners[row] == "wheel" else rng.randint(1, 3))) for row in rows}
            if plan_count(rows, owners, moves) > 120:
                continue
            top = rng.choice([1, 1, 3])
            ends = {store: tuple(rng.randint(-top, top) for _ in range(many)) for store in range(never)}
            firsts = [one[0] for one in ends.values()]
            ends[never] = (rng.choice([min(firsts), max(firsts), rng.randint(-top, top)]), *[0] * (many - 1))
            for view in ("S", "T"):
                self.same(view, rows, owners, moves, ends, ends[never])

    def some_move(self, rng, rows, never):
        places = rng.sample([*rows, *range(never + 1)], rng.choice([1, 1, 2, 3]))
        places.sort(key=lambda place: (0, place) if isinstance(place, int) else (1, place))
        return tuple((place, rng.randint(1, 3)) for place in places)

    def same(self, view, rows, owners, moves, ends, never):
        values, ranks, _ = values_and_ranks(rows, owners, moves, ends, never, LEADERS[view])
        field = Field(FakeWeb(view, owners, moves),
                      tuple(moved_by(pack_of(ends[outcome]), -never[0]) for outcome in sorted(ends)))
        field.need(rows[0])
        for row in rows:
            self.assertEqual(fractions_of(numbers_of(moved_by(field.packs[row], never[0]))), values[row])
            self.assertEqual(Fraction(-field.debts[row][1], field.debts[row][0]), ranks[row])


class Worth(Case):
    def test_by_all_plans(self):
        """Worths, tables and ranks of one, two and three frames, with loops and all kinds of payoffs."""
        rng = random.Random(144)
        depths = {1: 0, 2: 0, 3: 0}
        for at, (system, house, session) in enumerate(chain(sessions_of(rng, 300), deep_sessions(rng, 60))):
            side = rng.choice(sides(system[0]))
            payoff = some_payoff(rng, house.registry.space.never + 1, at)
            frames = house.frames(session)
            if not isinstance(tell(worth, house, session, side, payoff), Ratio):
                continue
            for view, seen, call in (("S", payoff, worth_paper), ("T", opposite(payoff), held_paper)):
                plain = plain_frames(house, session, side, view, seen)
                if plain is None:
                    continue
                depths[min(3, len(frames))] = depths.get(min(3, len(frames)), 0) + 1
                self.same(house, session, side, payoff, seen, plain, call)
        self.assertGreater(min(depths.values()), 60)

    def same(self, house, session, side, payoff, seen, plain, call):
        number, papers = call(house, session, side, payoff)
        self.assertIs(type(number), Ratio)
        self.assertEqual(len(papers), len(plain))
        top = Fraction(seen[house.store_now(session)])
        for (table, ranks), (rows, values, counts, ends), (_, _, place) in zip(papers, plain, house.frames(session)):
            self.assertEqual([row for row, _ in table], rows)
            self.assertEqual([row for row, _ in ranks], rows)
            for row, told in table:
                self.assertIs(type(told), tuple)
                self.assert_ratios(list(told))
                self.assertEqual(fractions_of(told), values[row])
            for row, told in ranks:
                self.assertIs(type(told), Ratio)
                self.assertEqual(fraction(told), counts[row])
            top = ends[place][0] if isinstance(place, int) else values[place][0]
        self.assertEqual(fraction(number), top)
        sign = 1 if call is worth_paper else -1
        self.assertEqual(fraction(worth(house, session, side, payoff)) * sign, top)

    def test_both_papers_at_once(self):
        """Each paper is taken, whatever the views tell, and both tell the same number; there are new lists each time."""
        rng = random.Random(147)
        for at, (system, house, session) in enumerate(sessions_of(rng, 120)):
            payoff = some_payoff(rng, house.registry.space.never + 1, at)
            for side in sides(system[0]):
                paper, other = tell(worth_paper, house, session, side, payoff), tell(held_paper, house, session, side, payoff)
                if isinstance(paper[0], Ratio) and isinstance(other[0], Ratio):
                    self.assertEqual(paper[0], -other[0])
                    self.assertEqual(worth(house, session, side, payoff), paper[0])
                    again = worth_paper(house, session, side, tuple(payoff))
                    self.assertTrue(is_worth_paper(house, session, side, payoff, again))
                    self.assertTrue(is_held_paper(house, session, side, payoff, other))
                    for told in (paper[1], *[item for part in paper[1] for item in part]):
                        told.clear()
                    self.assertTrue(is_worth_paper(house, session, side, payoff, again))
                    self.assertEqual(repr_of(worth_paper(house, session, side, payoff)), repr_of(again))

    def test_at_the_beginning_it_is_the_value(self):
        """A session that begins in published editions is worth what each side forces; errors are the same, too."""
        rng = random.Random(145)
        counted = 0
        for _ in range(250):
            system, registry = some_registry(rng)
            house = House(registry)
            store = rng.randrange(registry.space.never)
            session = house.begin(store)
            payoff = some_payoff(rng, registry.space.never + 1, counted)
            for side in sides(system[0]):
                want = tell(value, system, registry.last_unit(), store, side, payoff)
                got = tell(worth, house, session, side, payoff)
                counted += isinstance(got, Ratio)
                self.assertEqual(got, want)
        self.assertGreater(counted, 800)

    def test_promised_sides_have_no_errors(self):
        rng = random.Random(124)
        for _, house, session in sessions_of(rng, 120):
            for side in house.registry.promised():
                payoff = [rng.randint(-2, 2) for _ in range(house.registry.space.never + 1)]
                for call in (worth, worth_paper, held_paper):
                    call(house, session, side, payoff)

    def test_great_numbers(self):
        system = text("unit game { while x < 2 { draw x 0 by 11 2 by 1 1 by 12 choose p1 a { } or b { set x = 3 } } }",
                      "name x 4")
        house = House(Registry(system, [(1,)]))
        house.begin(0)
        top = 10 ** 60 - 1
        for payoff in ([0, 0, top, -top, 3], [0, 0, -top, top, 3], [0, 0, top, top, -top]):
            paper = worth_paper(house, 0, (1,), payoff)
            self.assertTrue(is_worth_paper(house, 0, (1,), payoff, paper))
            self.assertEqual(paper[0], max(payoff[2:4]))


class Never(Case):
    """What [146] tells, line by line."""

    def test_each_step(self):
        rng = random.Random(146)
        seen = {}
        for at, (system, house, session) in enumerate(sessions_of(rng, 260, 1)):
            payoff = some_payoff(rng, house.registry.space.never + 1, at)
            promised = house.registry.promised()
            for _ in range(12):
                ahead = [worth(house, session, side, payoff) for side in promised]
                asked = house.asks(session)
                if asked[0] == "over":
                    self.assertEqual(ahead, [payoff[house.store_now(session)]] * len(promised))
                    break
                self.check_answers(house, session, promised, payoff, ahead, asked)
                self.upgrade(rng, system, house, session, promised, payoff, ahead)
                ahead = [worth(house, session, side, payoff) for side in promised]
                asked = house.asks(session)
                number = self.go(rng, house, session, asked)
                behind = [worth(house, session, side, payoff) for side in promised]
                seen[asked[0]] = seen.get(asked[0], 0) + 1
                if asked[0] in ("loop", "back") or number == 0:
                    self.assertEqual(ahead, behind)
                elif asked[0] == "call":
                    self.check_call(house, session, asked[1], number, payoff, promised, ahead, behind)
        self.assertGreater(min(seen[kind] for kind in ("choose", "spin", "turn", "loop", "call", "back")), 20)

    def go(self, rng, house, session, asked):
        """Does a step; the number of the edition that begins with it, if one does."""
        house.step(session, any_answer(rng, asked))
        if asked[0] == "call":
            return house.frames(session)[-1][1]
        return None

    def check_call(self, house, session, unit, number, payoff, promised, ahead, behind):
        """A call is not worth less, unless its edition has a harm for the side, and then by at most this."""
        harms = dict(house.registry.harms(unit, number))
        store = house.frames(session)[-2][2][1]
        for side, one, other in zip(promised, ahead, behind):
            harm = fraction(harms[side][store])
            self.assertGreaterEqual(fraction(other), fraction(one) - harm * (max(payoff) - min(payoff)))
            if house.registry.bundle_of(unit, number) != ():
                self.assertGreaterEqual(fraction(other), fraction(one))

    def check_answers(self, house, session, promised, payoff, ahead, asked):
        """Worths behind all labels and all parts, in houses that go on by the picture."""
        if asked[0] not in ("choose", "spin", "turn"):
            return
        from evenpatch.pictures import go_on, picture
        answers = asked[2] if asked[0] == "choose" else range(asked[-1])
        lines = picture(house)
        tables = []
        for answer in answers:
            other = go_on(lines)
            other.step(session, answer)
            tables.append([fraction(worth(other, session, side, payoff)) for side in promised])
        for at, side in enumerate(promised):
            behind = [table[at] for table in tables]
            one = fraction(ahead[at])
            if asked[0] == "turn" or (asked[0] == "spin" and asked[1] in side):
                self.assertEqual(sum(behind), one * len(behind))
            elif asked[0] == "choose" and asked[1] in side:
                self.assertEqual(max(behind), one)
            else:
                self.assertEqual(min(behind), one)

    def upgrade(self, rng, system, house, session, promised, payoff, ahead):
        """Upgrades, refused ones too, other standings and steps of other sessions change nothing; moves lower nothing."""
        exchange_some(rng, system, house.registry, 1)
        unit = rng.choice(unit_names(system))
        quiet(house.registry.stand, unit, rng.randrange(len(house.registry.editions(unit))))
        other = quiet(house.begin, rng.randrange(house.registry.space.never))
        if other is not None and house.asks(other)[0] != "over":
            house.step(other, any_answer(rng, house.asks(other)))
        self.assertEqual([worth(house, session, side, payoff) for side in promised], ahead)
        lines = len(house.lines(session))
        frames = house.frames(session)
        at = rng.randrange(len(frames))
        unit, _, place = frames[at]
        store = place if isinstance(place, int) else place[1]
        number = rng.randrange(len(house.registry.editions(unit)))
        paths = [row for row, _ in moves_there(house, unit, number, store)]
        for new in rng.sample(paths, min(2, len(paths))):
            if at == len(frames) - 1:
                quiet(house.move, session, number, new)
            else:
                quiet(house.move_waiting, session, at, number, new)
        behind = [worth(house, session, side, payoff) for side in promised]
        if len(house.lines(session)) == lines:
            self.assertEqual(behind, ahead)
        for one, two in zip(ahead, behind):
            self.assertFalse(two.below(one))


def moves_there(house, unit, number, store):
    """The places of an edition with a store, each in a tuple with its statement."""
    from evenpatch.checks import statements, with_body
    system = with_body(house.registry.published(), unit, house.registry.body_at(unit, number))
    found = [((path, store), statement) for path, statement in statements(system, unit)]
    return [*found, (store, None)]


def repr_of(paper):
    """A paper with Python's own fractions."""
    number, papers = paper
    return fraction(number), [([(row, fractions_of(told)) for row, told in table],
                               [(row, fraction(told)) for row, told in ranks]) for table, ranks in papers]


class Ranks(Case):
    def test_known_ones(self):
        """Ranks count the rows above never: a loop that ends by halves is passed four times in the mean."""
        system = text("unit game { while x = 0 { draw x 0 by 1 1 by 1 } }")
        house = House(Registry(system, [(1,)]))
        house.begin(0)
        number, [(table, ranks)] = worth_paper(house, 0, (1,), [0, 5, 0])
        self.assertEqual([number, [fraction(told) for _, told in ranks]], [5, [4, 3]])
        number, [(table, ranks)] = worth_paper(house, 0, (1,), [0, 5, 6])
        self.assertEqual([number, [fraction(told) for _, told in ranks]], [5, [0, 0]])
        self.assertEqual([(row, fractions_of(told)) for row, told in table], [(((0,), 0), (5,)), (((0, 0, 0), 0), (5,))])

    def test_never_between(self):
        """Who goes round for ever gets never's item; a plan that keeps going round is taken where all else is less."""
        system = text("unit game { while yes { choose p1 go { } or stop { choose p2 low { set x = 1 } or high { } "
                      "call leave } } }".replace("call leave", "set x = x"), "name x 2")
        house = House(Registry(system, [(1,)]))
        house.begin(0)
        for payoff in ([3, 1, 2], [1, 1, 2], [3, 3, 2]):
            self.assertEqual(worth(house, 0, (1,), payoff), 2)

    def test_a_deeper_frame_counts_the_rest(self):
        """A frame above goes by the worth and then by the ranks below it: it leaves a loop that keeps the worth."""
        system = text("unit w { choose p1 again { } or done { set x = 1 } } unit game { while x = 0 { call w } }")
        house = House(Registry(system, [(1,)]))
        house.begin(0)
        house.step(0)
        house.step(0)
        number, papers = worth_paper(house, 0, (1,), [0, 1, 0])
        self.assertEqual([number, len(papers)], [1, 2])
        (_, ranks), (table, above) = papers
        self.assertEqual([(row, fractions_of(told)) for row, told in table], [(((0,), 0), (1, 0))])
        self.assertTrue(all(fraction(told) > 0 for _, told in ranks + above))


class Judges(Case):
    def house(self):
        house = House(Registry(text(
            "unit w { choose p1 again { } or done { set x = 1 } } unit game { while x = 0 { call w } draw x 0 by 1 1 by 1 }"),
            [(), (1,)]))
        house.begin(0)
        house.step(0)
        house.step(0)
        return house

    def test_any_value(self):
        house = self.house()
        for ended in range(2):
            for judge in (is_worth_paper, is_held_paper):
                for value in [*strange(), (1, []), (Ratio(1), ()), (1, [([], [])]), (1, [([], []), ([], [])])]:
                    self.assertIs(judge(house, 0, (1,), [0, 9, 0], value), False)
            while house.asks(0)[0] != "over":
                house.step(0, {"choose": "done", "turn": 0}.get(house.asks(0)[0]))
        self.assertIs(is_worth_paper(house, 0, (1,), [7, 9, 0], (7, [])), True)
        self.assertIs(is_worth_paper(house, 0, (1,), [7, 9, 0], (Ratio(7), ())), True)
        self.assertIs(is_held_paper(house, 0, (1,), [7, 9, 0], (-7, [])), True)
        for wrong in [(8, []), [7, []], (7, [()]), (7, {}), (True, []), (7,), (7, [], [])]:
            self.assertIs(is_worth_paper(house, 0, (1,), [7, 9, 0], wrong), False)
        self.assertIs(is_worth_paper(house, 0, (1,), [1, 9, 0], (True, [])), False)
        self.assertEqual(repr_of(worth_paper(house, 0, (1,), [7, 9, 0])), (7, []))
        self.assertEqual(repr_of(held_paper(house, 0, (1,), [7, 9, 0])), (-7, []))

    def test_changed_ones(self):
        """Papers with one thing changed are taken just if a plain judge takes them."""
        rng = random.Random(148)
        told = {True: 0, False: 0}
        for at, (system, house, session) in enumerate(sessions_of(rng, 150)):
            payoff = some_payoff(rng, house.registry.space.never + 1, at)
            side = rng.choice(house.registry.promised())
            for view, call, judge in (("S", worth_paper, is_worth_paper), ("T", held_paper, is_held_paper)):
                paper = call(house, session, side, payoff)
                self.assertTrue(judge(house, session, side, payoff, as_tuples(paper)))
                for _ in range(4):
                    value = changed_paper(rng, paper)
                    want = is_plain_paper(house, session, side, view, payoff, value)
                    if want is not None:
                        told[want] += 1
                        self.assertIs(judge(house, session, side, payoff, value), want)
        self.assertGreater(min(told.values()), 30)

    def test_lesser_papers(self):
        """A table that is not the value, with ranks that are not the least, shows its own number."""
        house = self.house()
        number, papers = worth_paper(house, 0, (1,), [0, 4, 0])
        self.assertEqual(number, 2)
        less = [([(row, tuple(item if at else 1 for at, item in enumerate(told))) for row, told in table],
                 [(row, told + 7) for row, told in ranks]) for table, ranks in papers]
        # All rows tell 1, so the draw at the end may be more, and all ranks are still paid.
        rows = [row for row, _ in less[0][0]]
        self.assertIn(((1,), 1), rows)
        self.assertFalse(is_worth_paper(house, 0, (1,), [0, 4, 0], (2, less)))
        zero = [(0, [([(row, (0,)) for row in rows], [(row, 0) for row in rows]),
                     ([(row, (0, 0)) for row, _ in papers[1][0]], [(row, 0) for row, _ in papers[1][0]])])]
        self.assertTrue(is_worth_paper(house, 0, (1,), [0, 4, 0], zero[0]))
        self.assertTrue(is_worth_paper(house, 0, (1,), [0, 4, 0], (Ratio(0), tuple(zero[0][1]))))
        self.assertFalse(is_worth_paper(house, 0, (1,), [0, 4, 0], (1, zero[0][1])))
        self.assertFalse(is_worth_paper(house, 0, (1,), [0, 4, 0], (False, zero[0][1])))


def as_tuples(paper):
    number, papers = paper
    return number, tuple((tuple(table), tuple(ranks)) for table, ranks in papers)


def changed_paper(rng, paper):
    """A paper with one thing changed."""
    number, papers = paper
    papers = [(list(table), list(ranks)) for table, ranks in papers]
    kind = rng.randrange(9)
    if kind == 0 or not papers or not any(table for table, _ in papers):
        return number + rng.choice([0, 1, -1]), papers
    at = rng.choice([k for k, (table, _) in enumerate(papers) if table])
    table, ranks = papers[at]
    row = rng.randrange(len(table))
    name, told = table[row]
    if kind == 1:
        item = rng.randrange(len(told))
        step = Ratio(rng.choice([-1, 1]), rng.choice([1, 2]))
        table[row] = (name, (*told[:item], told[item] + step, *told[item + 1:]))
    elif kind == 2:
        ranks[row] = (name, ranks[row][1] + rng.choice([-1, 1, Ratio(-1, 3)]))
    elif kind == 3:
        del rng.choice([table, ranks])[row]
    elif kind == 4:
        part = rng.choice([table, ranks])
        part.insert(row, part[row])
    elif kind == 5:
        part = rng.choice([table, ranks])
        part.reverse()
    elif kind == 6:
        table[row] = (name, rng.choice([list(told), (*told, 0), told[:-1], (True, *told[1:]), told[0]]))
    elif kind == 7:
        papers = rng.choice([papers[:-1], [*papers, ([], [])], [*papers, papers[-1]]])
    else:
        by = rng.randint(0, 2)
        papers[at] = (table, [(one, rank + by) for one, rank in ranks])
    return number, papers


def is_plain_paper(house, session, side, view, payoff, value):
    """Whether a value, of the right kinds but for what `changed_paper` does, is a paper; None if there is no web anew."""
    seen = payoff if view == "S" else opposite(payoff)
    frames = house.frames(session)
    number, papers = value
    if len(papers) != len(frames):
        return False
    ends = {outcome: (Fraction(item),) for outcome, item in enumerate(seen)}
    never = (Fraction(seen[-1]),)
    top = Fraction(seen[house.store_now(session)])
    for at, ((unit, edition, place), (table, ranks)) in enumerate(zip(frames, papers)):
        net = net_of(house.registry, unit, edition, side, view)
        if net is None:
            return None
        rows = net.frame_rows(place)
        if [row for row, _ in table] != rows or [row for row, _ in ranks] != rows:
            return False
        for _, told in table:
            if not isinstance(told, tuple) or len(told) != at + 1 or any(isinstance(item, bool) for item in told):
                return False
        values = {**ends, **{row: fractions_of(told) for row, told in table}}
        counts = {**{one: Fraction(0) for one in ends}, **{row: fraction(told) for row, told in ranks}}
        if min(counts.values()) < 0:
            return False
        for row in rows:
            goes = [goes_plainly(move, row, values, counts, never) for move in net.moves(row)]
            if not (any(goes) if net.owner(row) == LEADERS[view] else all(goes)):
                return False
        top = values[place][0]
        if at + 1 < len(frames):
            places = {outcome: net.behind(place, outcome) for outcome in ends}
            ends = {outcome: (*values[one], -counts[one]) for outcome, one in places.items()}
            never = (*never, Fraction(0))
    return fraction(number) == top


def goes_plainly(move, row, values, counts, never):
    whole = sum(weight for _, weight in move)
    mean = tuple(sum(Fraction(weight, whole) * values[place][k] for place, weight in move) for k in range(len(never)))
    rank = sum(Fraction(weight, whole) * counts[place] for place, weight in move)
    return mean > values[row] or (mean == values[row] and counts[row] >= rank + int(values[row] > never))


class Errors(Case):
    def calls(self):
        return [(worth, ()), (worth_paper, ()), (held_paper, ()), (is_worth_paper, (None,)), (is_held_paper, (None,))]

    def test_order(self):
        house = House(Registry(text("unit game { draw x 0 by 1 1 by 1 }"), [(1,)]))
        house.begin(0)
        for call, more in self.calls():
            for wrong in [*strange(), 1, -1, Ratio(0), "0"]:
                self.refused(InvalidSession, [wrong], call, house, wrong, (9,), None, *more)
            for wrong in [*[one for one in strange() if one != ()], (3,), [1], (2, 1), (True,), (Ratio(1),)]:
                self.refused(InvalidSide, [wrong], call, house, 0, wrong, None, *more)
            for wrong in [*strange(), [1, 2], [1, 2, 3, 4], [1, 2, True], [1, 2, Ratio(3)], [1, 2, None], {0: 1}]:
                self.refused(InvalidPayoff, [wrong], call, house, 0, (2,), wrong, *more)
        self.assertEqual(worth(payoff=(0, 2, 0), side=(), session=0, house=house), 1)

    def test_frames(self):
        """What is too much for a side that is not promised comes frame by frame, in the view that is used."""
        unit, count = self.rich_for_both(10)
        system = text(unit + "unit game { choose net on { call u } or off { } draw x 0 by 1 1 by 1 }")
        house = House(Registry(system, [(1,)]))
        house.begin(0)
        told = ["u", 0, (1, 2), count]
        for call, more in self.calls():
            if call in (held_paper, is_held_paper):
                call(house, 0, (1, 2), [0, 1, 0], *more)
            else:
                self.refused(TooRich, told, call, house, 0, (1, 2), [0, 1, 0], *more)
        house.step(0, "off")
        for _ in range(2):
            self.refused(TooRich, told, worth, house, 0, (1, 2), [0, 1, 0])
            self.refused(InvalidPayoff, [told], worth, house, 0, (1, 2), told)
            house.step(0, {"turn": 0}.get(house.asks(0)[0]))
        self.assertEqual(worth(house, 0, (1, 2), [3, 1, 0]), 3)
        self.assertFalse(is_worth_paper(house, 0, (1, 2), [3, 1, 0], None))

    def rich_for_both(self, leaves):
        """A unit that is too rich for both parties in the view "S" alone, but not for one of them; how many sets it has."""
        rng = random.Random(leaves)
        while True:
            unit = rich_unit(rng, leaves, None, ("p1", "p2"))
            system = text(unit + "unit game { call u }")
            count = len(families(system, "u", (1, 2), "S")[0])
            if count > 9 and len(families(system, "u", (1, 2), "T")[0]) == 1 and quiet(Registry, system, [(1,)]):
                return unit, count

    def test_bundles_come_last(self):
        """For a body of a bundle the published units come ahead of the bundle's own, whichever body calls them."""
        unit, count = self.rich_for_both(10)
        other, many = self.rich_for_both(11)
        game = "unit game { if x < 0 { call v call u } else { } draw x 0 by 1 1 by 1 }"
        system = text(f"{other.replace('unit u', 'unit v')} {unit} {game}")
        bodies = dict(system[2])
        for names, number, told in [((), 0, ["v", 0, (1, 2), many]), (("v", "game"), 1, ["u", 0, (1, 2), count]),
                                    (("u", "game"), 1, ["v", 0, (1, 2), many]), (("game",), 1, ["v", 0, (1, 2), many]),
                                    (("u", "v", "game"), 1, ["v", 0, (1, 2), many])]:
            registry = Registry(system, [(1,)])
            if names:
                registry.exchange_all({name: bodies[name] for name in names})
            house = House(registry)
            house.begin(0)
            self.assertEqual(house.start_of(0)[1], number)
            self.refused(TooRich, told, worth, house, 0, (1, 2), [0, 1, 0])
            self.assertIsInstance(held_paper(house, 0, (1, 2), [0, 1, 0])[0], Ratio)

    def test_as_called_units(self):
        rng = random.Random(84)
        raised = 0
        for _ in range(250):
            system = text(rich_unit(rng, rng.randint(5, 12), None) + "unit game { call u }", parties=3)
            registry = quiet(Registry, system, [(1,)])
            if registry is None:
                continue
            house = House(registry)
            house.begin(0)
            for side in sides(3):
                for call, view in ((worth, "S"), (held_paper, "T")):
                    want = tell(web_errors, system, side, view)
                    got = tell(call, house, 0, side, [0, 1, 0])
                    if want is None:
                        self.assertIsInstance(got[0] if isinstance(got, tuple) else got, Ratio)
                    else:
                        raised += 1
                        self.assertEqual(got, want)
        self.assertGreater(raised, 20)


def rich_unit(rng, leaves, party, parties=("p1", "p2", "p3", "net")):
    """A unit u of so many different draws, each behind chooses of a party, or of any ones."""
    weights = rng.sample([(1, by) for by in range(1, 13)] + [(by, 1) for by in range(2, 13)], leaves)
    parts = [f"draw x 0 by {one} 1 by {other}" for one, other in weights]
    while len(parts) > 1:
        some, parts = parts[:3], parts[3:]
        who = party or rng.choice(parties)
        parts.append(f"choose {who} " + " or ".join(f"{word} {{ {part} }}" for word, part in zip("abc", some)))
    return f"unit u {{ {parts[0]} }} "


def web_errors(system, side, view):
    """Raises what is too much for the last unit's called units; None if nothing is."""
    from evenpatch.plans import corners_by
    from evenpatch.errors import InvalidPlan
    try:
        corners_by(system, unit_names(system)[-1], 0, side, view, None)
    except InvalidPlan:
        return None


if __name__ == "__main__":
    unittest.main()

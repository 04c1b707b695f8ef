"""Tests of evenpatch.house."""

import random
import unittest
from fractions import Fraction

from brute import Plain, quiet, web_over
from helpers import Case, fraction, mean_of, strange
from second import any_answer
from test_bundles import renamed, with_copies
from test_registry import exchange_some, some_registry, tell
from third import Third, all_places

from evenpatch.checks import space_of, statements, unit_names, with_body
from evenpatch.errors import (Apart, InvalidAnswer, InvalidEdition, InvalidPart, InvalidPurse, InvalidRow, InvalidSession,
                              InvalidStore, NotAsked, NotLet, PactError, TooGreat, TooMany)
from evenpatch.hulls import corners
from evenpatch.house import House
from evenpatch.nearest import common
from evenpatch.ratios import Ratio
from evenpatch.registry import Registry
from evenpatch.texts import read_system

TOSS = "unit toss { choose p1 low { set x = 0 } or high { set x = 1 } } unit game { call toss }"


def text(units, names="name x 2", parties=2):
    return read_system(f"parties {parties} {names} {units}")


def body_from(source, names="name x 2", parties=2):
    return text(f"unit made {{ {source} }}", names, parties)[2][0][1]


def cut_to(system, unit):
    names = unit_names(system)
    return (*system[:2], system[2][:names.index(unit) + 1])


def net_of(registry, unit, number, side, view):
    """The web of an edition, made anew: for one of a bundle over copies of its units."""
    system = registry.published()
    bundle = dict(registry.bundle_of(unit, number))
    body = registry.body_at(unit, number)
    if bundle:
        bodies = {name: registry.body_at(name, at) for name, at in bundle.items()}
        system, body = with_copies(system, bodies), renamed(body, bodies)
        if len(system[2]) > 4:
            return None
    return web_over(with_body(system, unit, body), unit, side, view)


def do_meet(net, place, other, new):
    """Whether two places of webs meet, by all plans from both; None if there are very many."""
    plain, counter = Plain(net, place), Plain(other, new)
    if max(plain.count(), counter.count()) > 60:
        return None
    offers = {tuple(corners(plain.lots(plan))) for plan in plain.plans()}
    for lots in offers:
        for others in {tuple(corners(counter.lots(plan))) for plan in counter.plans()}:
            try:
                common(list(lots), list(others))
            except Apart:
                return False
    return True


class Steps(Case):
    def test_as_the_third_way(self):
        """Steps, purses and what is told, with upgrades at prices meanwhile, against a plain reckoning."""
        rng = random.Random(133)
        paid = 0
        for _ in range(250):
            system, registry = some_registry(rng)
            exchange_some(rng, system, registry, 4)
            house = House(registry)
            bodies = {unit: [body for _, body in registry.editions(unit)] for unit in unit_names(system)}
            guests = []
            for at in range(rng.randint(1, 4)):
                guest = Purse(rng, registry, bodies)
                self.assertEqual(house.begin(guest.began, guest.given), at)
                guest.start()
                guests.append(guest)
                self.assertEqual(house.sessions(), list(range(at + 1)))
            for _ in range(60):
                at = rng.randrange(len(guests))
                self.same(house, at, guests[at])
                asked = house.asks(at)
                if asked[0] == "over":
                    self.refused(NotAsked, [], house.step, at)
                    self.refused(NotAsked, [], house.step, at, "x")
                    continue
                answer = any_answer(rng, asked)
                self.assertIsNone(house.step(at, answer) if answer is not None or rng.random() < 0.5 else house.step(at))
                guests[at].third.step(answer)
                if rng.random() < 0.1:
                    exchange_some(rng, system, registry, 1)
                    for unit in bodies:
                        bodies[unit][:] = [body for _, body in registry.editions(unit)]
                if rng.random() < 0.2:
                    unit = rng.choice(unit_names(system))
                    quiet(registry.stand, unit, rng.randrange(len(bodies[unit])))
            for at, guest in enumerate(guests):
                self.same(house, at, guest)
                paid += any(guest.spent)
            self.check_unused(house, registry, guests)
        self.assertGreater(paid, 12)

    def same(self, house, at, guest):
        third = guest.third
        self.assertEqual([house.asks(at), house.lines(at), house.store_now(at), house.frames(at)],
                         [third.asks(), third.lines, third.store, third.places()])
        left = self.assert_ratios(house.purses_left(at))
        self.assertEqual(left, [purse - cost for purse, cost in zip(guest.purses, guest.spent)])
        self.assertGreaterEqual(min(left), 0)
        store, number, purses = house.start_of(at)
        self.assertEqual([store, number, self.assert_ratios(purses)], [guest.began, guest.first, guest.purses])

    def check_unused(self, house, registry, guests):
        used = {(unit, number) for guest in guests for unit, number, _ in guest.third.places()}
        used |= {(unit, registry.standing(unit)) for unit in unit_names(registry.published())}
        want = []
        for unit in unit_names(registry.published()):
            for number, _ in registry.editions(unit)[1:]:
                kin = registry.bundle_of(unit, number) or ((unit, number),)
                if not used & set(kin):
                    want.append((unit, number))
        self.assertEqual(house.unused(), want)
        house.unused().clear()
        self.assertEqual(house.unused(), want)

    def test_answers(self):
        system = text("unit u { } unit game { choose p1 a { } or b { } draw x 0 by 1 1 by 1 spin p2 x 0 by 1 1 by 2 "
                      "call u while x = 0 { } }")
        house = House(Registry(system, [(1,)]))
        house.begin(0)
        kept = [one for one in strange() if one is not None]
        for good, error, bad in [("b", InvalidAnswer, [None, *kept, "c", 0, ["a"]]), (1, InvalidPart, [None, *kept, 2, Ratio(1), "0"]),
                                 (0, InvalidPart, [None, *kept, 3, Ratio(0), "0"]), (None, InvalidAnswer, [*kept, 0, "u", "a"]),
                                 (None, InvalidAnswer, [*kept, 0, "u"]), (None, InvalidAnswer, [*kept, 0])]:
            ahead = [house.asks(0), house.lines(0)]
            for wrong in bad:
                self.refused(error, [wrong], house.step, 0, wrong)
            self.assertEqual([house.asks(0), house.lines(0)], ahead)
            house.step(session=0, answer=good)
        self.assertEqual(house.lines(0), ["choose b", "turn 1 of 2", "spin 0 of 3", "call u 0", "back u", "loop"])


class Purse:
    """A session with purses, as it is to go on."""

    def __init__(self, rng, registry, bodies):
        self.registry = registry
        self.bodies = bodies
        self.began = rng.randrange(len(space_of(registry.published())))
        many = len(registry.promised())
        self.given = None if rng.random() < 0.2 else \
            [rng.choice([0, 1, 2, Ratio(1, 2), Ratio(3, 4)]) for _ in range(many)]
        if self.given is not None and rng.random() < 0.3:
            self.given = tuple(self.given)
        self.purses = [fraction(item) for item in self.given or [0] * many]
        self.spent = [Fraction(0)] * many
        self.first = None
        self.third = None

    def start(self):
        self.third = Third(self.registry.published(), self.bodies, self.pick, self.began)
        self.first = self.third.frames[0][1]

    def pick(self, unit, caller):
        store = self.began if caller is None else self.third.store
        number = self.registry.standing(unit) if caller is None else self.registry.called(*caller, unit)
        costs = [fraction(numbers[store]) for _, numbers in self.registry.harms(unit, number)]
        if any(spent + cost > purse for spent, cost, purse in zip(self.spent, costs, self.purses)):
            return 0
        self.spent = [spent + cost for spent, cost in zip(self.spent, costs)]
        return number


class Houses(Case):
    def test_begin(self):
        registry = Registry(text(TOSS), [(), (1,)])
        house = House(registry=registry)
        self.assertIs(house.registry, registry)
        for wrong in [*strange(), 2, Ratio(0)]:
            self.refused(InvalidStore, [wrong], house.begin, wrong, 3)
        for wrong in [*[one for one in strange() if one is not None], [0], [0, 0, 0], [0, -1], [Ratio(-1, 9), 0], [True, 0], ["0", 0], 0,
                      [0, None], {0: 0, 1: 1}]:
            self.refused(InvalidPurse, [wrong], house.begin, 0, wrong)
        self.assertEqual([house.sessions(), house.has(0)], [[], False])
        purses = [1, Ratio(1, 2)]
        self.assertEqual([house.begin(store=1, purses=purses), house.begin(0, None), house.begin(0, (0, 3))], [0, 1, 2])
        purses.clear()
        self.assertEqual([str(item) for item in house.purses_left(0) + house.start_of(0)[2]], ["1", "1/2"] * 2)
        house.purses_left(0).clear()
        house.start_of(0)[2].clear()
        house.sessions().clear()
        house.lines(0).append("x")
        house.frames(0).clear()
        self.assertEqual([house.start_of(session=0), house.purses_left(session=0)], [(1, 0, [Ratio(1), Ratio(1, 2)]), [1, Ratio(1, 2)]])
        self.assertEqual([house.lines(session=0), house.frames(session=0)], [[], [("game", 0, ((0,), 1))]])
        for _ in range(17):
            house.begin(0)
        self.refused(TooMany, [21], house.begin, 0)
        self.refused(InvalidStore, [5], house.begin, 5)
        self.refused(InvalidPurse, [5], house.begin, 0, 5)
        self.assertEqual(house.sessions(), list(range(20)))

    def test_numbers(self):
        house = House(Registry(text(TOSS), [()]))
        calls = [(house.step, ()), (house.asks, ()), (house.lines, ()), (house.store_now, ()), (house.start_of, ()), (house.frames, ()),
                 (house.purses_left, ()), (house.move, (9, None)), (house.move_waiting, (9, 9, None))]
        for many in (0, 1):
            for wrong in [*strange(), many, -1, Ratio(0), "0", [0]]:
                self.assertIs(house.has(wrong), False)
                for call, more in calls:
                    self.refused(InvalidSession, [wrong], call, wrong, *more)
            house.begin(0)
        self.assertEqual([house.has(0), house.has(value=1), house.has(2)], [True, True, False])

    def test_first_calls_that_cost(self):
        """The first call is judged by the store that is passed, whatever the body does at once."""
        system = text("unit game { choose p1 low { set x = 0 } or high { set x = 1 } }", "name x 3")
        registry = Registry(system, [(1,)])
        body = body_from("if x = 2 { set x = 1 } else { choose p1 low { set x = 0 } or high { set x = 1 } }", "name x 3")
        self.assertEqual(registry.exchange_at("game", body, 1), 1)
        self.assertEqual([str(item) for item in registry.harms("game", 1)[0][1]], ["0", "0", "1"])
        house = House(registry)
        numbers = [house.begin(store, [purse]) for store in range(3) for purse in (0, Ratio(99, 100), 1)]
        self.assertEqual([house.start_of(at)[1] for at in numbers], [1] * 6 + [0, 0, 1])
        self.assertEqual([str(house.purses_left(at)[0]) for at in numbers[6:]], ["0", "99/100", "0"])
        self.assertEqual([house.asks(at)[0] for at in numbers[6:]], ["choose", "choose", "back"])

    def test_one_purse_is_too_small(self):
        """If one side cannot pay, no purse pays."""
        system = text(TOSS, parties=3)
        registry = Registry(system, [(1,), (1, 2)])
        registry.exchange_at("toss", body_from("draw x 0 by 1 1 by 1"), 1)
        house = House(registry)
        for purses, number, left in [([1, 0], 0, ["1", "0"]), ([0, 1], 0, ["0", "1"]), ([1, Ratio(1, 2)], 1, ["1/2", "0"])]:
            session = house.begin(0, purses)
            house.step(session)
            self.assertEqual([house.lines(session), [str(item) for item in house.purses_left(session)]], [[f"call toss {number}"], left])

    def test_unused(self):
        registry = Registry(text("unit w { set x = 1 } unit u { call w } unit game { call u }"), [(2,)])
        house = House(registry)
        bodies = {"u": (("call", "w"), ("set", "x", ("num", 1))), "w": (("set", "x", ("num", 0)),)}
        registry.exchange_all(bodies)
        self.assertEqual(house.unused(), [])
        session = house.begin(0)
        house.step(session)
        house.step(session)
        self.assertEqual(house.lines(session), ["call u 1", "call w 1"])
        registry.stand("u", 0)
        self.assertEqual(house.unused(), [])
        house.step(session)
        self.assertEqual(house.unused(), [])
        house.step(session)
        self.assertEqual(house.unused(), [("w", 1), ("u", 1)])
        registry.stand("u", 1)
        self.assertEqual(house.unused(), [])


class Moves(Case):
    def test_against_all_plans(self):
        """Moves are let by just if the places meet for each side; an error tells an attack."""
        rng = random.Random(135)
        kinds = {}
        while min(kinds.get(kind, 0) for kind in (("last", True), ("last", False), ("waits", True), ("waits", False))) < 25:
            system, registry = some_registry(rng)
            exchange_some(rng, system, registry, 6)
            house = House(registry)
            many = len(registry.promised())
            for _ in range(3):
                house.begin(rng.randrange(len(space_of(system))), [3] * many)
            for _ in range(25):
                at = rng.choice(house.sessions())
                if house.asks(at)[0] != "over":
                    if rng.random() < 0.6:
                        house.step(at, any_answer(rng, house.asks(at)))
                    else:
                        self.move(rng, system, registry, house, at, kinds)

    def move(self, rng, system, registry, house, at, kinds):
        frames = house.frames(at)
        index = len(frames) - 1 if rng.random() < 0.4 else rng.randrange(len(frames))
        unit, elder, old = frames[index]
        number = rng.randrange(len(registry.editions(unit)))
        store = old if isinstance(old, int) else old[1]
        body = registry.body_at(unit, number)
        some = all_places(cut_to(system, unit), body, store)
        is_last = index == len(frames) - 1
        if not is_last:
            told = dict(statements(with_body(system, unit, body), unit))
            some = [one for one in some if not isinstance(one, int) and told[one[0]] == ("call", frames[index + 1][0])]
            if not some:
                return
        place = rng.choice(some)
        want, where = self.wanted(registry, unit, elder, old, number, place, is_last, store)
        ahead = [house.frames(at), house.lines(at), house.purses_left(at), registry.lines()]
        found = tell(house.move, at, number, place) if is_last else tell(house.move_waiting, at, index, number, place)
        if found is None:
            self.assertIn(want, (True, None))
            self.assertEqual(house.frames(at)[index], (unit, number, place))
            path = "end" if isinstance(place, int) else ".".join(str(one) for one in place[0])
            self.assertEqual(house.lines(at), [*ahead[1], f"move {unit} {number} {path}"])
            self.assertEqual([house.purses_left(at), registry.lines()], ahead[2:])
            kinds["last" if is_last else "waits", True] = kinds.get(("last" if is_last else "waits", True), 0) + 1
            return
        self.assertEqual([house.frames(at), house.lines(at), house.purses_left(at), registry.lines()], ahead)
        if found[0] is NotLet:
            self.assertIn(want, (False, None))
            kinds["last" if is_last else "waits", False] = kinds.get(("last" if is_last else "waits", False), 0) + 1
            if want is False:
                self.assertEqual(tuple(found[1][:2]), where[:2])
                net, one, other, new = where[2:]
                _, _, plan, payoff, answer = found[1]
                low = min(mean_of(lot, payoff) for lot in Plain(net, one).lots(plan))
                self.assertGreater(low, max(mean_of(lot, payoff) for lot in Plain(other, new).lots(answer)))

    def wanted(self, registry, unit, elder, old, number, place, is_last, store):
        """Whether a move is let by, and otherwise for which side and store it is not, with webs and places."""
        for side in registry.promised():
            net, other = net_of(registry, unit, elder, side, "S"), net_of(registry, unit, number, side, "T")
            if net is None or other is None:
                return None, None
            stores = [store] if is_last else range(net.never)
            for one in stores:
                places = (old, place) if is_last else (net.behind(old, one), other.behind(place, one))
                try:
                    found = do_meet(net, places[0], other, places[1])
                except PactError:
                    return None, None
                if found is None:
                    return None, None
                if not found:
                    return False, (side, one, net, places[0], other, places[1])
        return True, None

    def test_moves_to_the_same_place(self):
        """They are let by, and so is a second move without the first one."""
        rng = random.Random(138)
        count = 0
        while count < 150:
            system, registry = some_registry(rng)
            exchange_some(rng, system, registry, 4)
            house = House(registry)
            session = house.begin(rng.randrange(len(space_of(system))), [2] * len(registry.promised()))
            for _ in range(rng.randint(0, 12)):
                if house.asks(session)[0] != "over":
                    house.step(session, any_answer(rng, house.asks(session)))
            frames = house.frames(session)
            for at, (unit, number, place) in enumerate(frames):
                found = tell(house.move, session, number, place) if at == len(frames) - 1 else \
                    tell(house.move_waiting, session, at, number, place)
                self.assertTrue(found is None or found[0] in (TooMany, TooGreat), found)
                count += 1
            self.assertEqual(house.frames(session), frames)

    def test_two_moves_and_one(self):
        rng = random.Random(1380)
        count = 0
        while count < 40:
            system, registry = some_registry(rng, many=1)
            exchange_some(rng, system, registry, 6)
            if len(registry.editions("last")) < 3:
                continue
            house = House(registry)
            store = rng.randrange(len(space_of(system)))
            one, two = house.begin(store), house.begin(store)
            for _ in range(rng.randint(0, 5)):
                if house.asks(one)[0] != "over":
                    answer = any_answer(rng, house.asks(one))
                    house.step(one, answer)
                    house.step(two, answer)
            if house.asks(one)[0] == "over":
                continue
            self.assertEqual(house.frames(one), house.frames(two))
            steps = []
            for _ in range(2):
                number = rng.randrange(len(registry.editions("last")))
                place = rng.choice(all_places(system, registry.body_at("last", number), house.store_now(one)))
                steps.append(tell(house.move, one, number, place))
            if steps == [None, None]:
                count += 1
                found = tell(house.move, two, number, place)
                self.assertTrue(found is None or found[0] in (TooMany, TooGreat), found)

    def test_order_of_errors(self):
        units = "unit a { choose p1 l { set x = 0 } or h { set x = 1 } } unit game { call a call a }"
        registry = Registry(text(units), [(), (1,)])
        registry.exchange_at("a", body_from("draw x 0 by 1 1 by 1"), 1)
        registry.stand("a", 0)
        house = House(registry)
        session = house.begin(0)
        house.step(session)
        for wrong in [*strange(), 1, 2, -1, Ratio(0)]:
            self.refused(InvalidRow, [wrong], house.move_waiting, session, wrong, 9, None)
        for wrong in [*strange(), 2, -1, Ratio(1)]:
            self.refused(InvalidEdition, [wrong], house.move, session, wrong, None)
            self.refused(InvalidEdition, [wrong], house.move_waiting, session, 0, wrong, None)
        for wrong in [*strange(), 1, Ratio(0), ((0,), 1), ((1,), 0), ((0,), 0, 0)]:
            self.refused(InvalidRow, [wrong], house.move, session, 1, wrong)
        for wrong in [*strange(), 0, ((2,), 0), ((0,), 1), ((0,), 0, 0)]:
            self.refused(InvalidRow, [wrong], house.move_waiting, session, 0, 0, wrong)
        self.assertEqual(tell(house.move, session, 1, ((0,), 0))[1][0], (1,))
        for at in range(8):
            self.assertEqual(tell(house.move, session, 1, ((0,), 0))[0], NotLet)
            if at % 2:
                house.move(session=session, number=0, place=((0,), 0))
            else:
                house.move_waiting(session=session, at=0, number=0, place=((0,), 0))
        self.refused(TooMany, [9], house.move, session, 1, ((0,), 0))
        self.refused(TooMany, [9], house.move_waiting, session, 0, 0, ((0,), 0))
        place = ((0,), 1)
        self.refused(InvalidRow, [place], house.move, session, 0, place)
        self.refused(InvalidRow, [place], house.move_waiting, session, 0, 0, place)
        while house.asks(session)[0] != "over":
            house.step(session, "low"[:1] if house.asks(session)[0] == "choose" else None)
        self.refused(NotAsked, [], house.move, session, 9, None)
        self.refused(NotAsked, [], house.move_waiting, session, 9, 9, None)
        self.assertEqual([house.frames(session), house.asks(session), house.store_now(session)], [[], ("over", 0), 0])
        self.assertEqual(len(house.lines(session)), 8 + 7)

    def test_too_many_rows_and_plans(self):
        # A place where no session comes may have too many rows of a frame, or too many plans.
        nine = "choose p1 l { } or h { } " * 9
        many = "choose p1 l { set x = 0 } or h { set x = 1 } " + "draw x 0 by 1 1 by 1 " * 12
        units = "unit game { choose p2 l { } or h { } if not [yes] { " + many + "} else { } }"
        house = House(Registry(text(units), [()]))
        session = house.begin(0)
        self.refused(TooMany, [25], house.move, session, 0, ((1, 0, 0), 0))
        self.assertIsNone(house.move(session, 0, ((0,), 0)))
        # All stores behind a call count, also those that the called unit never brings.
        behind = "call u if x = 1 { " + "draw x 0 by 1 1 by 1 " * 14 + "} else { }"
        units = "unit u { set x = 0 } unit game { choose p2 l { } or h { } if not [yes] { " + behind + "} else { } }"
        house = House(Registry(text(units), [()]))
        session = house.begin(0)
        self.assertEqual(tell(house.move, session, 0, ((1, 0, 0), 0)), (TooMany, [28]))
        self.assertEqual(house.lines(session), [])
        units = "unit game { choose p2 l { } or h { } if not [yes] { " + nine + "} else { } }"
        house = House(Registry(text(units), [(), (1,)]))
        session = house.begin(0)
        self.refused(TooMany, [257], house.move, session, 0, ((1, 0, 0), 0))
        self.assertEqual(house.lines(session), [])

    def test_too_great(self):
        part = "if x = 1 { draw x 0 by 1 1 by 12 } else { } " * 10
        units = f"unit a {{ {part} }} unit game {{ choose p2 l {{ }} or h {{ }} if not [yes] {{ call a call a call a call a }} else {{ }} }}"
        house = House(Registry(text(units), [()]))
        session = house.begin(1)
        self.refused(TooGreat, ["game", 1], house.move, session, 0, ((1, 0, 0), 1))
        found = tell(house.move, session, 0, ((1, 0, 2), 1))
        self.assertEqual((found[0], found[1][:3]), (NotLet, [(), 1, ()]))
        session = house.begin(0)
        self.assertIsNone(house.move(session, 0, 0))

    def test_nine_moves_of_calls_that_wait(self):
        """The ninth move is refused as such, also where it would not be let by."""
        system = text("unit u { } unit game { call u if x = 0 { set x = 1 } else { } call u }")
        house = House(Registry(system, [()]))
        session = house.begin(0)
        house.step(session)
        self.assertEqual(tell(house.move_waiting, session, 0, 0, ((2,), 0))[0], NotLet)
        self.assertEqual(tell(house.move, session, 0, 0), None)
        for _ in range(7):
            house.move_waiting(session, 0, 0, ((0,), 0))
        self.refused(TooMany, [9], house.move_waiting, session, 0, 0, ((2,), 0))
        self.refused(TooMany, [9], house.move, session, 0, 0)

    def test_a_loop_is_mended(self):
        """While a session goes round in a loop, it is moved to an edition in which the loop can be left."""
        units = "unit game { while x = 0 { choose p2 on { } or on { } } }".replace("or on", "or off")
        registry = Registry(text(units), [(1,)])
        number = registry.exchange("game", body_from("while x = 0 { choose p1 on { } or leave { set x = 1 } }"))
        house = House(registry)
        session = house.begin(0)
        house.step(session)
        self.assertEqual(house.frames(session), [("game", 1, ((0, 0, 0), 0))])
        registry.stand("game", 0)
        session = house.begin(0)
        house.step(session)
        house.step(session, "off")
        self.assertIsNone(house.move(session, number, ((0, 0, 0), 0)))
        house.step(session, "leave")
        self.assertEqual([house.asks(session), house.store_now(session)], [("back", "game"), 1])

    def test_waiting_calls_by_all_stores(self):
        """What would follow for each store is judged, come or not."""
        units = "unit u { set x = 0 draw x 0 by 1 1 by 1 } unit game { call u if x = 2 { set x = 1 } else { set x = 2 } }"
        registry = Registry(text(units, "name x 3"), [()])
        body = (("call", "u"), *body_from("if x = 2 { set x = 0 } else { set x = 2 }", "name x 3"))
        number = registry.exchange("game", body)
        registry.stand("game", 0)
        house = House(registry)
        session = house.begin(0)
        house.step(session)
        found = tell(house.move_waiting, session, 0, number, ((0,), 0))
        self.assertEqual((found[0], found[1][:3], found[1][4]), (NotLet, [(), 2, ()], ()))
        self.assertEqual(tell(house.move_waiting, session, 0, 0, ((0,), 0)), None)

    def test_bundle_webs(self):
        """In a bundle's body a call brings what the bundle's own body brings."""
        units = "unit w { set x = 1 } unit u { call w } unit game { call u }"
        registry = Registry(text(units), [(2,)])
        bodies = {"u": (("call", "w"), ("set", "x", ("num", 1))), "w": (("set", "x", ("num", 0)),)}
        registry.exchange_all(bodies)
        house = House(registry)
        session = house.begin(0)
        house.step(session)
        self.assertEqual(house.frames(session)[-1], ("u", 1, ((0,), 0)))
        self.assertIsNone(house.move(session, 0, ((0,), 0)))
        self.assertIsNone(house.move(session, 1, ((0,), 0)))
        house.step(session)
        self.assertEqual(house.frames(session)[-2:], [("u", 1, ((0,), 0)), ("w", 1, 0)])
        # Behind the call the elder body brings the store 1, whatever w does.
        self.assertEqual(tell(house.move_waiting, session, 1, 0, ((0,), 0))[:1], (NotLet,))
        self.assertEqual(tell(house.move, session, 0, 0), None)


if __name__ == "__main__":
    unittest.main()

"""Tests of evenpatch.machine."""

import random
import unittest

from helpers import Case, strange
from second import Second, any_answer, small_body, small_system
from third import Third, all_places

from evenpatch.checks import body_of, calls_of, space_of, statements, unit_names, with_body
from evenpatch.compiler import compiled
from evenpatch.errors import (InvalidAnswer, InvalidBody, InvalidEdition, InvalidPart, InvalidRow, InvalidStore,
                              InvalidSystem, InvalidUnit, NotAsked, NotFair, PactError, TooMany)
from evenpatch.machine import Session, Shelf
from evenpatch.plain import play
from evenpatch.ratios import Ratio
from evenpatch.texts import read_system


def text(units, names="name x 3", parties=2):
    return read_system(f"parties {parties} {names} {units}")


def body_from(source, names="name x 3", parties=2):
    return text(f"unit made {{ {source} }}", names, parties)[2][0][1]


def setting(at):
    """One of many different bodies."""
    return (("set", "x", ("num", at)),)


CHAIN = text("unit w { set x = 1 } unit u { call w } unit game { call u }")


class Shelves(Case):
    def test_at_first(self):
        shelf = Shelf(CHAIN)
        self.assertEqual(shelf.published(), CHAIN)
        for unit, body in CHAIN[2]:
            self.assertEqual([shelf.standing(unit), shelf.editions(unit)], [0, [(0, body)]])
            self.assertEqual([shelf.body_at(unit, 0), shelf.code_at(unit, 0)], [body, compiled(CHAIN, unit, body)])
            self.assertEqual(shelf.bundle_of(unit, 0), ())
            self.assertEqual(shelf.called("game", 0, unit), 0)
        for value in strange():
            self.refused(InvalidSystem, [value], Shelf, value)
        self.refused(NotFair, ["twice", None, "x"], Shelf, (2, (("x", 2),), (("x", ()),)))

    def test_exchange_and_stand(self):
        shelf = Shelf(system=CHAIN)
        self.assertEqual([shelf.exchange("w", setting(at)) for at in (2, 3, 2, 1, 4)], [1, 2, 1, 0, 3])
        self.assertEqual([shelf.standing("w"), shelf.standing("u")], [3, 0])
        self.assertEqual(shelf.editions("w"), [(0, setting(1)), (1, setting(2)), (2, setting(3)), (3, setting(4))])
        shelf.editions("w").clear()
        self.assertEqual([shelf.stand(unit="w", number=2), shelf.standing(unit="w"), shelf.stand("w", 2)], [None, 2, None])
        self.assertEqual(shelf.exchange(unit="u", body=()), 1)
        self.assertEqual([shelf.body_at("w", 2), shelf.code_at(unit="w", number=3).rows[0]], [setting(3), ("push", 4)])
        self.assertEqual(shelf.published(), CHAIN)

    def test_errors(self):
        shelf = Shelf(CHAIN)
        shelf.exchange("w", ())
        for value in [*strange(), "x", "W", ["w"]]:
            for call, more in [(shelf.standing, ()), (shelf.stand, (9,)), (shelf.editions, ()), (shelf.body_at, (9,)),
                               (shelf.code_at, (9,)), (shelf.exchange, (9,)), (shelf.bundle_of, (9,)), (shelf.called, (9, 9))]:
                self.refused(InvalidUnit, [value], call, value, *more)
            self.refused(InvalidUnit, [value], shelf.called, "w", 0, value)
        for value in [*strange(), 2, -1, Ratio(1), Ratio(0), "0"]:
            for call, more in [(shelf.stand, ()), (shelf.body_at, ()), (shelf.code_at, ()), (shelf.bundle_of, ()),
                               (shelf.called, (9,))]:
                self.refused(InvalidEdition, [value], call, "w", value, *more)
        for value in [value for value in strange() if value != ()]:
            self.refused(InvalidBody, [value], shelf.exchange, "u", value)
        self.refused(NotFair, ["call", "w", "u"], shelf.exchange, "w", (("call", "u"),))
        self.assertEqual([len(shelf.editions(unit)) for unit in "wu"], [2, 1])
        self.assertEqual(shelf.standing("w"), 1)

    def test_twelve_editions(self):
        shelf = Shelf(CHAIN)
        self.assertEqual([shelf.exchange("w", setting(at)) for at in range(2, 13)], list(range(1, 12)))
        self.refused(TooMany, [13], shelf.exchange, "w", setting(13))
        self.assertEqual(shelf.standing("w"), 11)
        self.assertEqual([shelf.exchange("w", setting(at)) for at in (1, 12, 5)], [0, 11, 4])
        bad = (("call", "w"),)
        self.refused(NotFair, ["call", "w", "w"], shelf.exchange, "w", bad)
        # A bundle counts, too, and so do its editions.
        self.refused(TooMany, [13], shelf.exchange_all, {"w": setting(2), "game": ()})
        self.assertEqual([len(shelf.editions(unit)) for unit in ("w", "u", "game")], [12, 1, 1])
        other = Shelf(CHAIN)
        for _ in range(11):
            other.exchange_all({"u": ()})
        self.refused(TooMany, [13], other.exchange, "u", ())
        self.assertEqual(other.exchange("u", (("call", "w"),)), 0)

    def test_exchange_goes_by_the_published_system(self):
        """Only statements of the published units count, whatever stands."""
        many = "set x = 1 " * 20
        system = text("unit a { " + many + "} unit b { " + "set x = 1 " * 15 + "} unit c { }")
        shelf = Shelf(system)
        shelf.exchange("a", ())
        five = body_from("set x = 1 " * 5)
        self.assertEqual(shelf.exchange("c", five), 1)
        six = body_from("set x = 1 " * 6)
        self.refused(InvalidBody, [six], shelf.exchange, "c", six)


class Bundles(Case):
    def test_doors(self):
        """A call counts as published, also where no session comes; what is called from within the bundle alone is inner."""
        system = text("unit a { } unit b { call a } unit c { if not [yes] { call a } else { } } unit d { call b call c }")
        for bodies, inner in [({"a": ()}, ""), ({"a": (), "b": ()}, ""), ({"a": (), "b": (), "c": ()}, "a"),
                              ({"d": (), "c": (), "b": (), "a": ()}, "abc"), ({"b": (), "c": ()}, ""), ({"d": ()}, "")]:
            shelf = Shelf(system)
            bundle = tuple((unit, 1) for unit in sorted(bodies))
            self.assertEqual(shelf.exchange_all(bodies), bundle)
            for unit in "abcd":
                is_door = unit in bodies and unit not in inner
                self.assertEqual(shelf.standing(unit), int(is_door))
                self.assertEqual(len(shelf.editions(unit)), 1 + (unit in bodies))
                if unit in bodies:
                    self.assertEqual(shelf.bundle_of(unit, 1), bundle)
                    if unit in inner:
                        self.refused(InvalidEdition, [1], shelf.stand, unit, 1)
                    else:
                        self.assertIsNone(shelf.stand(unit, 0))
                        self.assertIsNone(shelf.stand(unit, 1))
                for other in "abcd":
                    self.assertEqual(shelf.called(unit, 0, other), shelf.standing(other))
                    if unit in bodies:
                        self.assertEqual(shelf.called(unit, 1, other), int(other in bodies))

    def test_no_doors(self):
        for bodies in [{"w": ()}, {"w": (), "u": ()}]:
            shelf = Shelf(text("unit w { } unit u { call w } unit game { }"))
            if "u" in bodies:
                self.refused(InvalidBody, [bodies], shelf.exchange_all, bodies)
            else:
                self.assertEqual(shelf.exchange_all(bodies), (("w", 1),))

    def test_wrong_bundles(self):
        shelf = Shelf(CHAIN)
        for value in [*[value for value in strange() if value != {}], {}, {"x": ()}, {"w": (), "x": ()}, {"w": (), 3: ()},
                      {None: ()}, {True: ()}, {("w",): ()}, [("w", ())]]:
            self.refused(InvalidBody, [value], shelf.exchange_all, value)
        for value in [value for value in strange() if value != ()]:
            bodies = {"u": value, "w": value}
            self.refused(InvalidBody, [value], shelf.exchange_all, bodies)
        loop = (("call", "game"),)
        self.refused(NotFair, ["call", "w", "game"], shelf.exchange_all, {"u": 3, "w": loop})
        self.refused(NotFair, ["call", "u", "game"], shelf.exchange_all, {"u": loop, "w": ()})
        self.assertEqual([len(shelf.editions(unit)) for unit in ("w", "u", "game")], [1, 1, 1])

    def test_forty_statements(self):
        system = text("unit a { } unit b { call a } unit c { " + "set x = 1 " * 4 + " call b }")
        twenty, fifteen = (body_from("set x = 1 " * count) for count in (20, 15))
        shelf = Shelf(system)
        self.assertEqual(shelf.exchange_all({"a": twenty, "b": fifteen}), (("a", 1), ("b", 1)))
        sixteen = body_from("set x = 1 " * 16)
        bodies = {"a": twenty, "b": sixteen}
        self.refused(InvalidBody, [bodies], shelf.exchange_all, bodies)
        self.assertEqual(shelf.exchange_all({"a": twenty, "b": sixteen, "c": ()}), (("a", 2), ("b", 2), ("c", 1)))
        for _ in range(9):
            shelf.exchange_all({"b": ()})
        self.refused(InvalidBody, [bodies], shelf.exchange_all, bodies)
        self.refused(TooMany, [13], shelf.exchange_all, {"b": ()})

    def test_editions_in_bundles_count_for_nothing_else(self):
        shelf = Shelf(CHAIN)
        self.assertEqual(shelf.exchange_all({"u": ()}), (("u", 1),))
        self.assertEqual(shelf.exchange_all({"u": ()}), (("u", 2),))
        self.assertEqual([shelf.exchange("u", ()), shelf.exchange("u", ()), shelf.exchange_all(bodies={"u": ()})],
                         [3, 3, (("u", 4),)])
        self.assertEqual([shelf.stand("u", 1), shelf.standing("u"), shelf.exchange("u", ()), shelf.standing("u")], [None, 1, 3, 3])

    def test_nothing_is_kept(self):
        shelf = Shelf(CHAIN)
        bodies = {"game": (("call", "u"),), "u": ()}
        shelf.exchange_all(bodies)
        bodies.clear()
        self.assertEqual([shelf.bundle_of("u", 1), shelf.called("game", 1, "u")], [(("u", 1), ("game", 1)), 1])

    def test_bundles_call_their_own(self):
        shelf = Shelf(CHAIN)
        shelf.exchange_all({"u": (("call", "w"), ("call", "w")), "w": setting(2)})
        session = Session(shelf, 0)
        for _ in range(3):
            session.go()
        self.assertEqual(session.lines(), ["call u 1", "call w 1", "back w"])
        session.go(is_published=True)
        for _ in range(3):
            session.go()
        self.assertEqual(session.lines()[3:], ["call w 0", "back w", "back u", "back game"])


def some_shelf(rng):
    """A shelf with editions of all units, and bundles now and then."""
    system = small_system(rng, many=rng.randint(1, 3))
    shelf = Shelf(system)
    names = unit_names(system)
    bodies = {unit: [body] for unit, body in system[2]}
    for _ in range(rng.randint(0, 6)):
        some = {unit: small_body(rng, system[0], system[1], names[:names.index(unit)], 4)
                for unit in rng.sample(names, rng.choice([1, 1, min(2, len(names)), len(names)]))}
        try:
            if len(some) == 1 and rng.random() < 0.6:
                unit, body = list(some.items())[0]
                number = shelf.exchange(unit, body)
                if number == len(bodies[unit]):
                    bodies[unit].append(body)
            else:
                for unit, number in shelf.exchange_all(some):
                    bodies[unit].append(some[unit])
        except PactError:
            continue
    for unit in names:
        assert [body for _, body in shelf.editions(unit)] == bodies[unit]
        try:
            shelf.stand(unit, rng.randrange(len(bodies[unit])))
        except InvalidEdition:
            continue
    return system, shelf, bodies


def do(session, answer, is_published=False):
    """Does the step that a session asks for."""
    kind = session.asks()[0]
    if kind in ("choose", "spin", "turn"):
        return getattr(session, kind)(answer)
    return session.go(is_published=is_published)


class Sessions(Case):
    def test_as_the_second_and_the_third_way(self):
        """Sessions over editions, bundles and moves, with exchanges meanwhile, against two other ways."""
        rng = random.Random(119)
        moves = 0
        for at in range(500):
            system, shelf, bodies = some_shelf(rng)
            store = rng.randrange(len(space_of(system)))
            last = unit_names(system)[-1]
            is_published = [rng.random() < 0.3]
            pick = lambda unit, caller: 0 if is_published[0] else \
                (shelf.standing(unit) if caller is None else shelf.called(*caller, unit))
            session = Session(shelf, store, is_published=is_published[0])
            self.assertEqual(session.edition, pick(last, None))
            third = Third(system, bodies, pick, store)
            second = Second(system[1], lambda unit, caller: (bodies[unit][pick(unit, caller)], pick(unit, caller)), last, store)
            count = 0
            for _ in range(rng.choice([5, 20, 60])):
                self.same(session, third, store)
                if second is not None:
                    self.assertEqual([second.asked, second.store(), second.lines], [session.asks(), session.store, session.lines()])
                if session.is_over:
                    break
                if rng.random() < 0.2:
                    unit = rng.choice(unit_names(system))
                    number = rng.randrange(len(bodies[unit]))
                    try:
                        shelf.stand(unit, number)
                    except InvalidEdition:
                        pass
                if at % 2 and rng.random() < 0.15 and count < 8:
                    if self.move(rng, system, session, third, bodies):
                        second = None
                        count += 1
                        moves += 1
                        continue
                answer = any_answer(rng, session.asks())
                is_published[0] = rng.random() < 0.2
                self.assertIsNone(do(session, answer, is_published[0]))
                third.step(answer)
                if second is not None:
                    second.answer(answer)
        self.assertGreater(moves, 120)

    def same(self, session, third, store):
        self.assertEqual([session.asks(), session.store, session.lines(), session.frames(), session.places()],
                         [third.asks(), third.store, third.lines, third.rows(), third.places()])
        self.assertIs(session.is_over, not third.frames)
        self.assertEqual(session.began, store)

    def move(self, rng, system, session, third, bodies):
        places = session.places()
        index = rng.randrange(len(places))
        unit, number, place = places[index]
        number = rng.randrange(len(bodies[unit]))
        store = place if isinstance(place, int) else place[1]
        some = all_places(cut_to(system, unit), bodies[unit][number], store)
        if index == len(places) - 1:
            place = rng.choice(some)
            self.assertIsNone(session.move(number, place))
        else:
            called = places[index + 1][0]
            new = with_body(system, unit, bodies[unit][number])
            some = [one for one in some if not isinstance(one, int)
                    and dict(statements(new, unit))[one[0]] == ("call", called)]
            if not some:
                return False
            place = rng.choice(some)
            self.assertIsNone(session.move_waiting(index, number, place))
        third.move(index, number, place)
        return True

    def test_published_editions_alone(self):
        rng = random.Random(1190)
        for _ in range(200):
            system = small_system(rng)
            shelf = Shelf(system)
            store = rng.randrange(len(space_of(system)))
            session = Session(shelf, store)
            items = []
            for _ in range(50):
                if session.is_over:
                    break
                answer = any_answer(rng, session.asks())
                if answer is not None:
                    items.append(answer)
                do(session, answer)
            lines = [" ".join(line.split()[:2]) if line.startswith("call ") else line for line in session.lines()]
            end = session.store if session.is_over else None
            self.assertEqual(play(system, store, items, len(lines)), (lines, end))

    def test_what_is_asked(self):
        system = text("unit u { set x = x + 1 } unit game { choose p2 a { spin p1 x 0 by 1 2 by 4 } or b { draw x 1 by 2 2 by 3 "
                      "while x < 2 { call u } } }")
        session = Session(Shelf(system), 1)
        steps = [(("choose", 2, ("a", "b")), "b"), (("turn", 5), 0), (("loop",), None), (("call", "u"), None), (("back", "u"), None),
                 (("back", "game"), None), (("over", 2), None)]
        for asked, answer in steps:
            self.assertEqual(session.asks(), asked)
            for name in ("choose", "spin", "turn", "go"):
                kind = {"call": "go", "back": "go", "loop": "go"}.get(asked[0], asked[0])
                if name != kind:
                    self.refused(NotAsked, [], getattr(session, name), *([] if name == "go" else [answer]))
            if asked[0] != "over":
                do(session, answer)
        self.assertEqual([session.is_over, session.store, session.began, session.edition], [True, 2, 1, 0])
        self.assertEqual([session.frames(), session.places()], [[], []])
        session = Session(shelf=Shelf(system), store=0)
        session.choose(label="a")
        self.assertEqual(session.asks(), ("spin", 1, 5))
        session.spin(part=1)
        self.assertEqual([session.asks(), session.store, session.lines()], [("back", "game"), 2, ["choose a", "spin 1 of 5"]])
        session.lines().clear()
        session.frames().clear()
        session.places().clear()
        self.assertEqual([session.frames(), session.places()], [[("game", 0, len(Shelf(system).code_at("game", 0).rows) - 1)],
                                                                [("game", 0, 2)]])

    def test_errors(self):
        system = text("unit game { choose p1 a { } or b { } spin p1 x 0 by 1 2 by 4 draw x 0 by 1 1 by 1 }")
        for value in [*strange(), 3, -1, Ratio(0)]:
            self.refused(InvalidStore, [value], Session, Shelf(system), value)
        session = Session(Shelf(system), 0)
        for value in [*strange(), "c", 0, ("a",), ["a"], "A"]:
            self.refused(InvalidAnswer, [value], session.choose, value)
        session.choose("a")
        for value in [*strange(), 5, "0", Ratio(1), [0]]:
            self.refused(InvalidPart, [value], session.spin, value)
        session.spin(4)
        for value in [*strange(), 2, "0", Ratio(1), [0]]:
            self.refused(InvalidPart, [value], session.turn, value)
        session.turn(1)
        self.assertEqual(session.lines(), ["choose a", "spin 4 of 5", "turn 1 of 2"])

    def test_calls_that_have_begun_go_on(self):
        system = text("unit toss { draw x 0 by 1 1 by 1 } unit game { call toss call toss }")
        shelf = Shelf(system)
        session = Session(shelf, 2)
        session.go()
        shelf.exchange("toss", setting(2))
        shelf.exchange("game", ())
        self.assertEqual(session.asks(), ("turn", 2))
        session.turn(0)
        session.go()
        session.go()
        self.assertEqual([session.store, session.frames(), session.lines()[-1]],
                         [2, [("game", 0, 1), ("toss", 1, 2)], "call toss 1"])
        self.assertEqual([Session(shelf, 2).edition, Session(shelf, 2, is_published=True).edition], [1, 0])
        self.assertEqual(Session(shelf, 2).asks(), ("back", "game"))


class Moves(Case):
    def setUp(self):
        units = "unit a { set x = 1 draw x 0 by 1 1 by 1 } unit b { call a } unit game { call b while x < 2 { call b } }"
        self.shelf = Shelf(text(units))
        self.shelf.exchange("a", body_from("while x = 1 { } choose p1 a { } or b { }"))
        self.shelf.exchange_all({"b": (("call", "a"), ("call", "a")), "a": (), "game": (("call", "b"),)})
        self.session = Session(self.shelf, 0, is_published=True)

    def test_errors_in_order(self):
        session = self.session
        session.go(is_published=True)
        session.go(is_published=True)
        self.assertEqual(session.places(), [("game", 0, ((0,), 0)), ("b", 0, ((0,), 0)), ("a", 0, ((1,), 1))])
        for value in [*strange(), 3, -1, Ratio(0), "0"]:
            self.refused(InvalidEdition, [value], session.move, value, None)
            self.refused(InvalidEdition, [value], session.move_waiting, 0, value, None)
        for value in [*strange(), 2, -1, Ratio(0), "0"]:
            self.refused(InvalidRow, [value], session.move_waiting, value, 9, None)
        for value in [*strange(), 0, 2, Ratio(1), ((1,), 0), ((0,), 1), ((1,), 1, 0), ((2,), 1), [(1,), 1], ([1], 1), ((1,), True)]:
            self.refused(InvalidRow, [value], session.move, 0, value)
        for value in [*strange(), 0, 1, ((0,), 1), ((0,), 0, 0), ((1,), 0), ((0,), False), [(0,), 0]]:
            self.refused(InvalidRow, [value], session.move_waiting, 1, 0, value)
            self.refused(InvalidRow, [value], session.move_waiting, 0, 0, value)
        # The call of another unit is none for which a frame waits.
        other = self.shelf.exchange("game", (("call", "a"), ("call", "b")))
        place = ((0,), 0)
        self.refused(InvalidRow, [place], session.move_waiting, 0, other, place)
        # A while is a place only where its condition holds; where no session comes, a statement is one, too.
        self.assertIsNone(session.move(1, ((0,), 1)))
        self.assertEqual(session.asks(), ("loop",))
        self.assertIsNone(session.move(number=1, place=((1,), 1)))
        place = ((0,), 0)
        self.refused(InvalidRow, [place], session.move, 1, place)
        self.assertIsNone(session.move(2, 1))
        self.assertEqual([session.asks(), session.places()[-1]], [("back", "a"), ("a", 2, 1)])
        self.assertIsNone(session.move_waiting(1, 1, ((1,), 0)))
        self.assertIsNone(session.move_waiting(at=0, number=0, place=((1, 0, 0), 0)))
        self.assertEqual(session.lines(), ["call b 0", "call a 0", "move a 1 0", "move a 1 1", "move a 2 end", "move b 1 1",
                                           "move game 0 1.0.0"])
        session.go()
        self.assertEqual([session.asks(), session.places()], [("back", "b"), [("game", 0, ((1, 0, 0), 0)), ("b", 1, 1)]])

    def test_eight_moves(self):
        session = self.session
        session.go(is_published=True)
        session.go(is_published=True)
        for at in range(8):
            if at % 2:
                session.move(0, ((1,), 1))
            else:
                session.move_waiting(1, at // 4, ((0,), 0))
        self.refused(TooMany, [9], session.move, 0, ((1,), 1))
        self.refused(TooMany, [9], session.move_waiting, 1, 0, ((0,), 0))
        place = ((1,), 0)
        self.refused(InvalidRow, [place], session.move, 0, place)
        self.refused(InvalidEdition, [9], session.move_waiting, 1, 9, place)
        self.assertEqual(len(session.lines()), 10)
        other = Session(self.shelf, 0)
        self.assertIsNone(other.move(0, ((0,), 0)))

    def test_at_the_end(self):
        session = Session(Shelf(text("unit game { set x = 2 }")), 0)
        self.assertIsNone(session.move(0, 2))
        self.refused(InvalidRow, [0], session.move_waiting, 0, 9, None)
        session.go()
        for number in (0, 7):
            self.refused(NotAsked, [], session.move, number, None)
            self.refused(NotAsked, [], session.move_waiting, 9, number, None)
        self.assertEqual(session.lines(), ["move game 0 end", "back game"])

    def test_waiting_frames_keep_the_store_of_the_call(self):
        system = text("unit u { draw x 0 by 1 2 by 1 } unit game { set x = 1 call u if x = 2 { call u } else { } }")
        session = Session(Shelf(system), 0)
        session.go()
        session.turn(1)
        self.assertEqual(session.places(), [("game", 0, ((1,), 1)), ("u", 0, 2)])
        for place in [((1,), 2), ((2, 0, 0), 2), ((2,), 1)]:
            self.refused(InvalidRow, [place], session.move_waiting, 0, 0, place)
        session.move_waiting(0, 0, ((2, 0, 0), 1))
        self.assertEqual(session.places(), [("game", 0, ((2, 0, 0), 1)), ("u", 0, 2)])
        session.go()
        self.assertEqual(session.places(), [("game", 0, 2)])

    def test_inner_editions(self):
        shelf = Shelf(CHAIN)
        shelf.exchange_all({"u": (("call", "w"),), "w": setting(2)})
        session = Session(shelf, 0)
        session.go(is_published=True)
        session.go(is_published=True)
        self.assertEqual(session.places()[-1], ("w", 0, 1))
        self.assertIsNone(session.move(1, 1))
        self.assertIsNone(session.move_waiting(1, 1, ((0,), 0)))
        self.assertEqual(session.places(), [("game", 0, ((0,), 0)), ("u", 1, ((0,), 0)), ("w", 1, 1)])


def cut_to(system, unit):
    """The system cut off behind a unit."""
    names = unit_names(system)
    return (*system[:2], system[2][:names.index(unit) + 1])


class Others(Case):
    def test_units_that_are_called(self):
        """`called` tells of any unit, whether such a call stands in the body or not."""
        shelf = Shelf(CHAIN)
        shelf.exchange("game", ())
        self.assertEqual(calls_of(with_body(CHAIN, "game", ()), "game"), [])
        for unit in ("w", "u", "game"):
            self.assertEqual(shelf.called("game", 1, unit), shelf.standing(unit))
            self.assertEqual(shelf.called(unit=unit, number=0, other="game"), 1)
        self.assertEqual(shelf.body_at("u", 0), body_of(CHAIN, "u"))

    def test_sessions_do_not_change_one_another(self):
        shelf = Shelf(text("unit game { choose p1 a { set x = 1 } or b { set x = 2 } }"))
        sessions = [Session(shelf, 0) for _ in range(3)]
        sessions[1].choose("b")
        sessions[2].choose("a")
        self.assertEqual([session.store for session in sessions], [0, 2, 1])
        self.assertEqual([session.lines() for session in sessions], [[], ["choose b"], ["choose a"]])


if __name__ == "__main__":
    unittest.main()

"""Tests of evenpatch.pictures."""

import random
import unittest

from brute import quiet
from helpers import Case, fraction, strange
from second import any_answer
from test_house import text
from test_records import deed, moves_there
from test_registry import exchange_some, some_registry, state, tell

from evenpatch.errors import InvalidLines
from evenpatch.house import House
from evenpatch.pictures import go_on, picture
from evenpatch.ratios import Ratio
from evenpatch.records import record_of
from evenpatch.registry import Registry


def some_house(rng, deeds=20):
    """A house with several sessions, editions, bundles and moves."""
    system, registry = some_registry(rng)
    house = House(registry)
    exchange_some(rng, system, registry, rng.randint(0, 4))
    for _ in range(rng.randint(0, 3)):
        house.begin(rng.randrange(registry.space.never), [Ratio(rng.randint(0, 6), rng.randint(1, 4)) for _ in registry.promised()])
    for _ in range(deeds):
        some_deed(rng, system, house)
    return system, house


def some_deed(rng, system, house):
    open_ones = [session for session in house.sessions() if house.asks(session)[0] != "over"]
    if rng.random() < 0.08:
        exchange_some(rng, system, house.registry, 1)
    elif rng.random() < 0.06:
        quiet(house.begin, rng.randrange(house.registry.space.never))
    elif open_ones:
        session = rng.choice(open_ones)
        if rng.random() < 0.3:
            deed(rng, system, house, session)
        else:
            house.step(session, any_answer(rng, house.asks(session)))


def plain_picture(house):
    found = list(house.registry.lines())
    for session in house.sessions():
        store, _, purses = house.start_of(session)
        found.append(f"session {session} from {store} with " + " ".join(str(purse) for purse in purses))
        found += record_of(house, session)[2]
    return found


def told_by(house):
    """All that a house tells of its sessions."""
    found = [state(house.registry), house.unused(), house.sessions()]
    for session in house.sessions():
        store, number, purses = house.start_of(session)
        found.append([house.asks(session), house.lines(session), house.store_now(session), house.frames(session),
                      [fraction(one) for one in house.purses_left(session)], store, number, [fraction(one) for one in purses]])
    return found


class Pictures(Case):
    def test_going_on(self):
        """What go_on makes has an equal picture and tells the same, behind the same deeds, too."""
        rng = random.Random(167)
        moved = 0
        for _ in range(140):
            system, house = some_house(rng)
            lines = picture(house)
            self.assertEqual(lines, plain_picture(house))
            other = go_on(lines if rng.random() < 0.7 else tuple(lines))
            self.assertIsNot(other.registry, house.registry)
            self.assertEqual(picture(other), lines)
            self.assertEqual(str_of(told_by(other)), str_of(told_by(house)))
            moved += any(line.startswith("move") for line in lines)
            self.both(rng, system, house, other)
            # What is done in one of them changes nothing in the other one.
            ahead = picture(house)
            for _ in range(6):
                some_deed(rng, system, other)
            self.assertEqual(picture(house), ahead)
        self.assertGreater(moved, 20)

    def both(self, rng, system, house, other):
        """The same deeds in both are told alike, but for what may be any right answer."""
        for _ in range(12):
            seed = rng.random()
            for one in (house, other):
                some_deed(random.Random(seed), system, one)
            self.assertEqual(picture(other), picture(house))
            for session in house.sessions():
                for call in ("asks", "frames", "store_now"):
                    self.assertEqual(getattr(house, call)(session), getattr(other, call)(session))
                frames = house.frames(session)
                if frames:
                    unit, number, place = frames[-1]
                    store = place if isinstance(place, int) else place[1]
                    new = rng.choice(moves_there(house, unit, number, store))
                    new = new if isinstance(new[1], int) else new[0]
                    told = [tell(one.move, session, number, new) for one in (house, other)]
                    self.assertEqual(*[one if one is None else (one[0], one[1][:2]) for one in told])
        self.assertEqual(picture(other), picture(house))

    def test_changed_ones(self):
        """Pictures with one thing changed: what is taken has this very picture, all else is refused."""
        rng = random.Random(1671)
        taken = 0
        for _ in range(110):
            system, house = some_house(rng, 12)
            lines = picture(house)
            for _ in range(4):
                value = changed_lines(rng, lines)
                found = tell(go_on, value)
                if isinstance(found, House):
                    taken += 1
                    self.assertEqual(picture(found), value)
                else:
                    self.assertIs(found[0], InvalidLines)
                    self.assertIs(found[1][0], value)
        self.assertGreater(taken, 10)

    def test_any_value(self):
        for wrong in [*strange(), [""], ["session 0 from 0 with 0"], [None], "parties 2"]:
            self.refused(InvalidLines, [wrong], go_on, wrong)

    def house(self, promised=((1,), (2,))):
        toss = "unit toss { choose p1 low { set x = 0 } or high { set x = 2 } } "
        house = House(Registry(text(toss + "unit game { call toss }", "name x 3"), promised))
        house.registry.exchange_at("toss", (("draw", "x", ((0, 1), (2, 3))),), Ratio(3, 4))
        return house

    def test_written_just_so(self):
        """Blanks, leading zeros, numbers that are not in order, stores and purses that are none."""
        house = self.house()
        house.begin(1, [1, Ratio(1, 2)])
        house.step(0)
        lines = picture(house)
        self.assertEqual(lines[-3:], ["session 0 from 1 with 1 1/2", "call game 0", "call toss 1"])
        self.assertEqual(picture(go_on(lines=lines)), lines)
        self.assertEqual([str(one) for one in go_on(lines).purses_left(0)], ["1/4", "1/2"])
        for first in ["session 1 from 1 with 1 1/2", "session 00 from 1 with 1 1/2", "session 0 from 3 with 1 1/2",
                      "session 0 from 01 with 1 1/2", "session 0 from 1 with 1 2/4", "session 0 from 1 with 1/1 1/2",
                      "session 0 from 1 with 01 1/2", "session 0 from 1 with 1", "session 0 from 1 with 1 1/2 0",
                      "session 0 from 1 with 1 -1/2", "session 0 from 1 with 1 1/0", "session 0 from 1 with 1 1/-2",
                      "session 0 from 1 with 1  1/2", "session 0 from 1 with 1 1/2 ", " session 0 from 1 with 1 1/2",
                      "session 0 from 1 with 1 +1/2", "session 0 from 1 with 1 1/", "session 0 from 1 with 1 /2",
                      "session 0 from 1 with 1 1/2/1", "session 0 from 1 with one 1/2", "session 0 at 1 with 1 1/2",
                      "session 0 from 1 by 1 1/2", "session 0 from 1 with", "session", "sessions 0 from 1 with 1 1/2",
                      "session -0 from 1 with 1 1/2", "session 0 from -1 with 1 1/2", "session 0 from x with 1 1/2",
                      "session 0 from 1 with 1 1/2\n", "session 0 from 1 with 1 1.5", "session\t0 from 1 with 1 1/2"]:
            value = [*lines[:-3], first, *lines[-2:]]
            self.refused(InvalidLines, [value], go_on, value)
        for value in [lines[:-2], [*lines[:-3], *lines[-2:]], [*lines[:-2], "call game 1", lines[-1]], [*lines, ""],
                      [*lines[:-1], "call toss 2"], [*lines[:-1], "call toss 01"], [*lines[:-1], "call toss"], [*lines[:-1], "call game 0"],
                      [*lines[:-2], "call toss 1"], [*lines, "turn 4 of 4"], [*lines, "turn 3 of 5"], [*lines, "spin 3 of 4"],
                      [*lines, "turn 03 of 4"], [*lines, "loop"], [*lines, "back toss"], [*lines, lines[-3]], [*lines, "stand toss 0"],
                      [*lines, "choose low"], [*lines, "call toss 1"], lines[-3:], [*lines[-3:], *lines[:-3]], "\n".join(lines),
                      [*lines, 0], [*lines, *lines[-3:]], {"": lines}]:
            self.refused(InvalidLines, [value], go_on, value)
        two = [*lines, lines[-3].replace("session 0", "session 1"), *lines[-2:]]
        self.assertEqual(picture(go_on(two)), two)
        swapped = [*lines[:-3], *two[-3:], *lines[-3:]]
        self.refused(InvalidLines, [swapped], go_on, swapped)

    def test_what_could_not_be_paid(self):
        """A call in an edition with costs needs purses that pay it; edition 0 needs none, whatever stands."""
        house = self.house()
        lines = picture(house)
        # The coin costs the first side 3/4 in each store.
        self.assertEqual([str(one) for one in house.registry.harms("toss", 1)[0][1]], ["3/4"] * 3)
        for purse, number, want in [("3/4", 1, True), ("0", 1, False), ("74/100", 1, False), ("37/50", 1, False), ("0", 0, True),
                                    ("5", 0, True), ("5", 1, True)]:
            value = [*lines, f"session 0 from 2 with {purse} 0", "call game 0", f"call toss {number}"]
            found = tell(go_on, value)
            self.assertEqual(isinstance(found, House), want, value)
        for stands in ("stand toss 0", "stand toss 1"):
            value = [*lines[:-2], stands, lines[-1], "session 0 from 2 with 1 0", "call game 0", "call toss 1", "turn 0 of 4"]
            other = go_on(value)
            self.assertEqual([picture(other), other.registry.standing("toss")], [value, int(stands[-1])])
        twice = self.house()
        again = text("unit toss { } unit game { call toss call toss }", "name x 3")[2][1][1]
        self.assertEqual(twice.registry.exchange_at("game", again, 1), 1)
        lines = picture(twice)
        steps = ["call game 1", "call toss 1", "turn 0 of 4", "back toss"]
        game = fraction(twice.registry.harms("game", 1)[0][1][0])
        for more, line, want in [(0, "call toss 1", False), (0, "call toss 0", True), ("3/4", "call toss 1", True)]:
            costs = [game, *[fraction(twice.registry.harms("toss", 1)[0][1][store]) for store in ((0, 0) if more else (0,))]]
            value = [*lines, f"session 0 from 0 with {sum(costs)} 9", *steps, line]
            self.assertEqual(isinstance(tell(go_on, value), House), want, value)

    def test_moves(self):
        """Moves that a house would not let by, or a ninth one, are in no picture."""
        house = self.house([(1,)])
        house.begin(1, [1])
        house.step(0)
        lines = picture(house)
        for more, want in [(["move toss 1 0"], True), (["move toss 0 0"], True), (["move toss 1 end"], False), (["move game 0 0"], True),
                           (["move toss 0 0", "move toss 1 0"], False), (["move toss 1 0"] * 8, True), (["move toss 1 0"] * 9, False),
                           (["move toss 0 end"], False), (["move toss 2 0"], False), (["move game 0 end"], False)]:
            value = lines + more
            found = tell(go_on, value)
            self.assertEqual(isinstance(found, House), want, more)
            if want:
                self.assertEqual(picture(found), value)
                unit, number, place = found.frames(0)[-1]
                self.assertEqual(tell(found.move, 0, number, place) is None, len(more) < 8)

    def test_twenty_sessions(self):
        house = self.house()
        for _ in range(20):
            house.begin(0)
        lines = picture(house)
        self.assertEqual(picture(go_on(lines)), lines)
        value = [*lines, "session 20 from 0 with 0 0", "call game 0"]
        self.refused(InvalidLines, [value], go_on, value)

    def test_new_lists(self):
        house = self.house()
        lines = picture(house=house)
        picture(house).clear()
        self.assertEqual(picture(house), lines)
        other = go_on(lines)
        lines.clear()
        self.assertEqual(picture(other), picture(house))

    def test_inner_editions_begin_nowhere_else(self):
        system = text("unit v { } unit w { call v } unit game { call w }")
        house = House(Registry(system, [(1,)]))
        self.assertEqual(house.registry.exchange_all({"v": (), "w": (("call", "v"),)}), (("v", 1), ("w", 1)))
        lines = [*picture(house), "session 0 from 0 with 0", "call game 0"]
        for more, want in [(["call w 1", "call v 1"], True), (["call w 1", "call v 0"], False), (["call w 0", "call v 0"], True),
                           (["call w 0", "call v 1"], False), (["call w 0", "call v 0", "move v 1 end"], True)]:
            self.assertEqual(isinstance(tell(go_on, lines + more), House), want, more)


def changed_lines(rng, lines):
    """Lines with one thing changed, more often behind those of the registry."""
    lines = list(lines)
    starts = [at for at, line in enumerate(lines) if line.startswith("session")]
    low = starts[0] if starts and rng.random() < 0.8 else 0
    at = rng.randrange(low, len(lines))
    kind = rng.randrange(6)
    if kind == 0:
        del lines[at]
    elif kind == 1:
        lines.insert(at, rng.choice(lines))
    elif kind == 2:
        lines[at] = lines[rng.randrange(low, len(lines))]
    elif kind == 3:
        words = lines[at].split(" ")
        words[rng.randrange(len(words))] = rng.choice(["0", "1", "2", "1/2", "end", "a", "", "0.0.0"])
        lines[at] = " ".join(words)
    elif kind == 4:
        lines.append(rng.choice(["loop", "choose a", "choose b", "turn 0 of 2", "move game 0 0", "back game", "call toss 0",
                                 f"session {len(starts)} from 0 with 0"]))
    else:
        lines = lines[:at]
    return lines


def str_of(value):
    """A value with all Ratios written, and attacks left out."""
    if isinstance(value, (list, tuple)):
        return [str_of(item) for item in value]
    return str(value)


if __name__ == "__main__":
    unittest.main()

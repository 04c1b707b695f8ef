"""Tests of evenpatch.records."""

import random
import unittest

from brute import quiet
from helpers import Case, strange
from second import any_answer
from test_house import text
from test_registry import exchange_some, some_registry
from test_worth import moves_there
from told import is_told

from evenpatch.checks import unit_names
from evenpatch.errors import InvalidRecord, InvalidSession, InvalidSystem, NotFair
from evenpatch.house import House
from evenpatch.ratios import Ratio
from evenpatch.records import is_record, record_of, replay
from evenpatch.registry import Registry


def live_sessions(rng, count, steps=25, wild=0.25):
    """Sessions in houses with editions, bundles and moves, behind each deed: tuples (system, house, session)."""
    for _ in range(count):
        system, registry = some_registry(rng)
        house = House(registry)
        exchange_some(rng, system, registry, rng.randint(0, 4))
        session = house.begin(rng.randrange(registry.space.never), [Ratio(rng.randint(0, 4), 2) for _ in registry.promised()])
        yield system, house, session
        for _ in range(steps):
            if house.asks(session)[0] == "over":
                break
            if rng.random() < wild:
                deed(rng, system, house, session)
            else:
                house.step(session, any_answer(rng, house.asks(session)))
            yield system, house, session


def deed(rng, system, house, session):
    """An exchange, another edition that stands, or a move, refused or not."""
    kind = rng.random()
    if kind < 0.3:
        exchange_some(rng, system, house.registry, 1)
    elif kind < 0.4:
        unit = rng.choice(unit_names(system))
        quiet(house.registry.stand, unit, rng.randrange(len(house.registry.editions(unit))))
    else:
        frames = house.frames(session)
        at = rng.randrange(len(frames))
        unit, number, place = frames[at]
        if rng.random() < 0.8:
            number = rng.randrange(len(house.registry.editions(unit)))
        store = place if isinstance(place, int) else place[1]
        new = place if rng.random() < 0.4 else rng.choice(moves_there(house, unit, number, store))
        if new != place:
            new = new[0]
        if at == len(frames) - 1:
            quiet(house.move, session, number, new)
        else:
            quiet(house.move_waiting, session, at, number, new)


class Records(Case):
    def test_of_sessions(self):
        """The record of a session, behind each deed, is one of the published system; its replay is what it tells."""
        rng = random.Random(164)
        counted = {"moves": 0, "bundles": 0, "over": 0, "editions": 0}
        for system, house, session in live_sessions(rng, 150):
            record = record_of(house, session)
            self.assertEqual(record, self.plain(house, session))
            self.assertTrue(is_record(system, record))
            self.assertTrue(is_told(system, record))
            told = (house.asks(session), house.store_now(session), house.frames(session))
            self.assertEqual(replay(system, record), told)
            self.assertEqual(replay(system, (record[0], tuple(record[1]), tuple(record[2]))), told)
            counted["moves"] += any(line.startswith("move") for line in record[2])
            counted["bundles"] += any(item[3] != () for item in record[1])
            counted["editions"] += any(item[1] > 0 and item[3] == () for item in record[1])
            counted["over"] += told[0][0] == "over"
        self.assertGreater(min(counted.values()), 30)

    def plain(self, house, session):
        store, number, _ = house.start_of(session)
        registry = house.registry
        last = unit_names(registry.published())[-1]
        lines = [f"call {last} {number}"] + house.lines(session)
        told = sorted({(unit_names(registry.published()).index(words[1]), int(words[2]))
                       for words in [line.split() for line in lines] if words[0] in ("call", "move")})
        names = unit_names(registry.published())
        return (store, [(names[at], one, registry.body_at(names[at], one), registry.bundle_of(names[at], one))
                        for at, one in told], lines)

    def test_beginnings(self):
        """A record without some last lines, and without editions that are then no longer told, is that of a while ago."""
        rng = random.Random(1641)
        for _ in range(60):
            before = []
            for system, house, session in live_sessions(rng, 1):
                before.append((record_of(house, session), house.asks(session), house.store_now(session), house.frames(session)))
            for record, asked, store, frames in before:
                full = before[-1][0]
                lines = full[2][:len(record[2])]
                self.assertEqual(lines, record[2])
                told = {tuple(line.split()[1:3]) for line in lines if line.split()[0] in ("call", "move")}
                editions = [item for item in full[1] if (item[0], str(item[1])) in told]
                self.assertEqual(replay(system, (full[0], editions, lines)), (asked, store, frames))
                if len(editions) < len(full[1]):
                    self.assertFalse(is_record(system, (full[0], full[1], lines)))

    def test_changed_ones(self):
        """Records with one thing changed, against a second judge."""
        rng = random.Random(162)
        counted = {True: 0, False: 0}
        for system, house, session in live_sessions(rng, 110, 15):
            record = record_of(house, session)
            for _ in range(5):
                value = changed_record(rng, system, house, record)
                want = is_told(system, value)
                counted[want] += 1
                self.assertIs(is_record(system, value), want, value)
                if want:
                    replay(system, value)
                else:
                    self.refused(InvalidRecord, [value], replay, system, value)
        self.assertGreater(min(counted.values()), 200)

    def test_any_value(self):
        system = text("unit w { } unit game { choose p1 a { call w } or b { } }")
        bodies = dict(system[2])
        editions = [("w", 0, bodies["w"], ()), ("game", 0, bodies["game"], ())]
        right = (0, editions, ["call game 0", "choose a", "call w 0"])
        self.assertTrue(is_record(system=system, value=right))
        self.assertEqual(replay(system=system, record=right), (("back", "w"), 0, [("game", 0, ((0, 0, 0), 0)), ("w", 0, 0)]))
        wrong = [*strange(), list(right), right[:2], (*right, 0), (True, *right[1:]), (2, *right[1:]), (-1, *right[1:]),
                 (Ratio(0), *right[1:]), (0, {}, right[2]), (0, [], right[2]), (0, editions[1:], right[2]),
                 (0, editions[::-1], right[2]), (0, editions * 2, right[2]), (0, editions, []), (0, editions, "call game 0"),
                 (0, [list(item) for item in editions], right[2]), (0, [("w", False, (), ()), editions[1]], right[2]),
                 (0, [("w", 0, [], ()), editions[1]], right[2]), (0, [("w", 0, (), []), editions[1]], right[2]),
                 (0, [("w", 0, (), None), editions[1]], right[2]), (0, [("v", 0, (), ()), editions[1]], right[2]),
                 (0, editions, [*right[2], 0]), (0, editions, [*right[2], None]), (0, editions, [*right[2], ["back w"]]),
                 (0, [None, *editions], right[2]), (0, [*editions, ("game", 12, (), ())], right[2])]
        for value in wrong:
            self.assertIs(is_record(system, value), False)
            self.refused(InvalidRecord, [value], replay, system, value)
        for line in ["", " ", "back", "back  w", "back w ", "back game", "call w 0", "move", "move w 0", "move w 0 end end", "move w 1 end",
                     "move w 0 0", "move w 00 end", "move game 0 end", "move game 0 0", "move game 0 0.00.0", "move game 0 0.0",
                     "move game 0 0.1.0", "move game 0 0.0.0 ", "move game 0 .", "move game 0 0..0", "move v 0 end", "loop",
                     "turn 0 of 2", "choose a", "over 0", "back w\n", "\tback w"]:
            self.assertIs(is_record(system, (0, editions, [*right[2], line])), False, line)
        for line in ["back w", "move w 0 end", "move game 0 0.0.0"]:
            self.assertIs(is_record(system, (0, editions, [*right[2], line])), True, line)
        lines = [*right[2], "back w", "back game"]
        self.assertTrue(is_record(system, (0, editions, lines)))
        for line in ["move game 0 end", "back game", "call game 0", "move game 0 0"]:
            self.assertIs(is_record(system, (0, editions, [*lines, line])), False)

    def test_nine_moves(self):
        system = text("unit w { } unit game { call w }")
        editions = [("w", 0, (), ()), ("game", 0, (("call", "w"),), ())]
        lines = ["call game 0", "call w 0"]
        moves = ["move w 0 end", "move game 0 0"] * 5
        for many in range(10):
            self.assertIs(is_record(system, (0, editions, lines + moves[:many])), many <= 8)
        self.assertIs(is_record(system, (0, editions, [*lines, *moves[:8], "back w", moves[0]])), False)

    def test_editions(self):
        """Numbers and bodies of editions in no bundle, bundles apart and the same, and inner ones."""
        system = text("unit v { set x = 1 } unit w { call v } unit game { call w }")
        bodies = dict(system[2])
        game = ("game", 0, bodies["game"], ())
        old = ("w", 0, bodies["w"], ())
        pair = (("v", 3), ("w", 2))
        inner, door = ("v", 3, (), pair), ("w", 2, bodies["w"], pair)
        first = ["call game 0"]
        for editions, lines, want in [
                ([old, game], ["call w 0"], True),
                ([("w", 1, bodies["w"], ()), game], ["call w 1"], False),
                ([("w", 0, (), ()), game], ["call w 0"], False),
                ([("w", 11, (), ()), game], ["call w 11"], True),
                ([("w", 12, (), ()), game], ["call w 12"], False),
                ([("w", 1, (), ()), ("w", 2, (), ()), game], ["call w 1", "move w 2 end"], False),
                ([("w", 1, (), ()), ("w", 2, (("set", "x", ("num", 0)),), ()), game], ["call w 1", "move w 2 end"], True),
                ([inner, door, game], ["call w 2", "call v 3"], True),
                ([door, game], ["call w 2"], True),
                ([("v", 0, bodies["v"], ()), door, game], ["call w 2", "call v 0"], False),
                ([inner, old, game], ["call w 0", "call v 3"], False),
                ([("v", 0, bodies["v"], ()), inner, old, game], ["call w 0", "call v 0", "move v 3 end"], True),
                ([("w", 1, (), (("w", 1),)), game], ["call w 1"], True),
                ([("w", 1, bodies["w"], (("w", 1),)), game], ["call w 1"], True),
                ([("w", 0, bodies["w"], (("w", 0),)), game], ["call w 0"], False),
                ([("w", 1, (), (("w", 2),)), game], ["call w 1"], False),
                ([("w", 1, (), (("w", 1), ("v", 1))), game], ["call w 1"], False),
                ([("w", 1, (), (("v", 1), ("w", 1))), game], ["call w 1"], True),
                ([("w", 1, (), (("v", 12), ("w", 1))), game], ["call w 1"], False),
                ([("w", 1, (), (("v", 0), ("w", 1))), game], ["call w 1"], False),
                ([("w", 1, (), (("w", 1), ("w", 2))), game], ["call w 1"], False),
                ([("w", 1, (), [("w", 1)]), game], ["call w 1"], False),
                ([("w", 1, (), (["w", 1],)), game], ["call w 1"], False),
                ([("w", 1, (), (("w", True),)), game], ["call w 1"], False),
                ([("w", 1, (), (("w", Ratio(1)),)), game], ["call w 1"], False),
                ([("w", 1, (("call", "v"),), (("v", 1), ("w", 1))), ("game", 2, bodies["game"], (("v", 1), ("game", 2)))], None, False),
                ([("v", 2, (), (("v", 2),)), door, ("game", 0, bodies["game"], ())], ["call w 2", "move v 2 end"], False),
                ([("v", 3, (), ()), door, game], ["call w 2", "call v 3"], False)]:
            if lines is None:
                lines, first_there = ["call w 1"], ["call game 2"]
            else:
                first_there = first
            value = (0, editions, first_there + lines)
            self.assertIs(is_record(system, value), want, value)
            self.assertIs(is_told(system, value), want, value)

    def test_first_calls(self):
        """The first line is a call of the last unit in any edition but an inner one; a bundle without a door is none."""
        system = text("unit w { } unit game { call w }")
        pair = (("w", 1), ("game", 1))
        self.assertTrue(is_record(system, (1, [("game", 1, (), pair)], ["call game 1"])))
        self.assertTrue(is_record(system, (1, [("game", 7, (), ())], ["call game 7"])))
        self.assertFalse(is_record(system, (1, [("w", 0, (), ())], ["call w 0"])))
        self.assertFalse(is_record(system, (1, [("w", 1, (), (("w", 1),))], ["call w 1"])))
        chain = text("unit v { } unit w { call v } unit game { call w }")
        self.assertFalse(is_record(chain, (0, [("v", 1, (), (("v", 1),)), ("w", 0, (("call", "v"),), ()),
                                               ("game", 0, (("call", "w"),), ())][1:], ["call game 0", "call w 0", "call v 1"])))

    def test_errors(self):
        house = House(Registry(text("unit game { }"), [()]))
        house.begin(0)
        for wrong in [*strange(), 1, -1, Ratio(0), "0"]:
            self.refused(InvalidSession, [wrong], record_of, house, wrong)
        for wrong in strange():
            self.refused(InvalidSystem, [wrong], is_record, wrong, None)
            self.refused(InvalidSystem, [wrong], replay, wrong, None)
        for call in (is_record, replay):
            self.refused(NotFair, ["twice", None, "x"], call, (2, (("x", 2),), (("x", ()),)), None)
        record = record_of(house=house, session=0)
        record[1].clear()
        record[2].clear()
        self.assertEqual(record_of(house, 0), (0, [("game", 0, (), ())], ["call game 0"]))


def changed_record(rng, system, house, record):
    """A record with one thing changed, or with a line more."""
    store, editions, lines = record[0], list(record[1]), list(record[2])
    kind = rng.randrange(10)
    at = rng.randrange(len(lines))
    if kind == 0:
        store = rng.randrange(house.registry.space.never)
    elif kind == 1:
        del lines[at]
    elif kind == 2:
        lines.insert(at, lines[rng.randrange(len(lines))])
    elif kind == 3:
        words = lines[at].split(" ")
        words[-1] = rng.choice(["0", "1", "2", "00", "end", "a", "", "0.0.0", words[-1] + "0", words[0]])
        lines[at] = rng.choice([" ", " ", "  "]).join(words)
    elif kind == 4:
        item = editions[rng.randrange(len(editions))]
        editions[editions.index(item)] = (item[0], rng.randint(0, 3), *item[2:])
    elif kind == 5:
        item = editions[rng.randrange(len(editions))]
        other = rng.choice(house.registry.editions(item[0]))[1]
        editions[editions.index(item)] = (*item[:2], other, item[3])
    elif kind == 6:
        item = editions[rng.randrange(len(editions))]
        others = [(), ((item[0], item[1]),), *[one[3] for one in editions]]
        editions[editions.index(item)] = (*item[:3], rng.choice(others))
    elif kind == 7:
        editions = rng.choice([editions[:-1], editions[::-1], [*editions, editions[0]], editions])
    else:
        unit = rng.choice(unit_names(system))
        number = rng.randrange(3)
        path = rng.choice(["end", "0", "0.0.0", "1", "0.1.0"])
        lines.append(rng.choice([f"move {unit} {number} {path}", f"call {unit} {number}", f"back {unit}", "loop",
                                 "choose a", "choose b", "turn 0 of 2", "spin 1 of 3"]))
        more = [one for one in house.registry.editions(unit) if one[0] == number]
        if more and (unit, number) not in [one[:2] for one in editions] and lines[-1].split(" ")[0] in ("move", "call"):
            editions.append((unit, number, more[0][1], house.registry.bundle_of(unit, number)))
            names = unit_names(system)
            editions.sort(key=lambda one: (names.index(one[0]), one[1]))
    return store, editions, lines


if __name__ == "__main__":
    unittest.main()

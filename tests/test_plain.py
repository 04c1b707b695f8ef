"""Tests of evenpatch.plain."""

import random
import unittest

from helpers import Case, strange
from second import of_system, played, small_system
from systems import some_system

from evenpatch.checks import space_of
from evenpatch.errors import InvalidAnswer, InvalidSteps, InvalidStore, InvalidSystem, NotFair
from evenpatch.plain import play
from evenpatch.ratios import Ratio
from evenpatch.spaces import Space
from evenpatch.texts import read_system


def one(body, names="name x 3"):
    return read_system(f"parties 2 {names} unit game {{ {body} }}")


def ends_of(body, names="name x 3"):
    """The ends of a body without steps of its own, from each store."""
    system = one(body, names)
    ends = []
    for store in range(len(space_of(system))):
        lines, end = play(system, store, [], 2000)
        assert lines == ["back game"], lines
        ends.append(end)
    return ends


class Meaning(Case):
    def test_expressions(self):
        self.assertEqual(ends_of("set x = 7"), [1, 1, 1])
        self.assertEqual(ends_of("set x = x + 1"), [1, 2, 0])
        self.assertEqual(ends_of("set x = x - 1"), [2, 0, 1])
        self.assertEqual(ends_of("set x = 0 - (x + 5)"), [1, 0, 2])
        self.assertEqual(ends_of("set x = (x - 2) * (99 * 99)"), [0, 0, 0])
        self.assertEqual(ends_of("set x = (1 - x) * (0 - 5)"), [1, 0, 2])
        self.assertEqual(ends_of("set y = x", "name x 2 name y 3"), [0, 0, 0, 4, 4, 4])
        self.assertEqual(ends_of("set x = y", "name x 2 name y 3"), [0, 4, 2, 0, 4, 2])

    def test_conditions(self):
        def shown(condition):
            return ends_of("if " + condition + " { set x = 1 } else { set x = 0 }")

        self.assertEqual(shown("yes"), [1, 1, 1])
        self.assertEqual(shown("x < 1"), [1, 0, 0])
        self.assertEqual(shown("x - 2 < 0 - 1"), [1, 0, 0])
        self.assertEqual(shown("x * x = x"), [1, 1, 0])
        self.assertEqual(shown("x = 3"), [0, 0, 0])
        self.assertEqual(shown("not [x = 1]"), [1, 0, 1])
        self.assertEqual(shown("[x < 2] and [0 < x]"), [0, 1, 0])
        self.assertEqual(shown("[x < 1] or [1 < x]"), [1, 0, 1])
        self.assertEqual(shown("[yes] or [yes]"), [1, 1, 1])

    def test_what_is_passed(self):
        self.assertEqual(ends_of(""), [0, 1, 2])
        self.assertEqual(ends_of("if yes { } else { set x = 1 } set x = x + 1"), [1, 2, 0])
        self.assertEqual(ends_of("while not [yes] { set x = 2 }"), [0, 1, 2])
        self.assertEqual(ends_of("set x = x + 1 set x = x * 2"), [2, 1, 0])
        self.assertEqual(ends_of("if x = 0 { set x = 1 if x = 1 { set x = 2 } else { } } else { }"), [2, 1, 2])

    def test_loops(self):
        system = one("while x < 2 { set x = x + 1 } set x = 0")
        self.assertEqual(play(system, 0, [], 2000), (["loop", "loop", "back game"], 0))
        self.assertEqual(play(system, 2, [], 2000), (["back game"], 0))
        empty = one("while yes { }")
        self.assertEqual(play(empty, 0, [], 3), (["loop"] * 3, None))
        inner = one("while yes { if x = 0 { } else { while x < 0 { } } }")
        self.assertEqual(play(inner, 1, [], 2000), (["loop"] * 2000, None))
        nested = one("while x = 0 { while x < 1 { while x = 0 { set x = 1 } } choose p1 a { set x = 0 } or b { } }")
        lines = ["loop", "loop", "loop", "choose a", "loop", "loop", "loop", "choose b", "back game"]
        self.assertEqual(play(nested, 0, ["a", "b"], 2000), (lines, 1))

    def test_wheels(self):
        system = one("draw x 2 by 1 0 by 2 1 by 3 spin p2 x 1 by 12 2 by 12")
        ends = []
        for part in range(6):
            lines, end = play(system, 0, [part], 1)
            self.assertEqual((lines, end), ([f"turn {part} of 6"], None))
            ends.append(play(one("draw x 2 by 1 0 by 2 1 by 3"), 1, [part], 9)[1])
        self.assertEqual(ends, [2, 0, 0, 1, 1, 1])
        self.assertEqual(play(system, 0, [5, 12], 9), (["turn 5 of 6", "spin 12 of 24", "back game"], 2))
        self.assertEqual(play(system, 0, [5, 11], 9), (["turn 5 of 6", "spin 11 of 24", "back game"], 1))
        two = one("draw y 2 by 1 0 by 1", "name x 2 name y 3")
        self.assertEqual([play(two, store, [0], 2)[1] for store in range(6)], [2, 2, 2, 5, 5, 5])

    def test_calls(self):
        text = "parties 2 name x 2 unit a { set x = 1 } unit b { call a call a } unit c { choose net u { call b } or v { } }"
        lines = ["choose u", "call b", "call a", "back a", "call a", "back a", "back b", "back c"]
        self.assertEqual(play(read_system(text), 0, ["u"], 2000), (lines, 1))
        for steps in range(8):
            self.assertEqual(play(read_system(text), 0, ["u"], steps), (lines[:steps], None))
        self.assertEqual(play(read_system(text), 0, ["u"], 8), (lines, 1))


class Refused(Case):
    def setUp(self):
        self.system = one("choose p1 a { } or b { draw x 0 by 1 1 by 1 }")

    def test_order(self):
        self.refused(InvalidSystem, [3], play, 3, 9, 0, -1)
        unfair = (2, (("x", 3),), (("game", (("call", "game"),)),))
        self.refused(NotFair, ["call", "game", "game"], play, unfair, 9, 0, -1)
        self.refused(InvalidStore, [3], play, self.system, 3, 0, -1)
        self.refused(InvalidSteps, [-1], play, self.system, 2, 0, -1)
        self.refused(InvalidAnswer, [0], play, self.system, 2, 0, 0)

    def test_stores_and_steps(self):
        for value in [*strange(), 3, -1, "0", Ratio(1), [0]]:
            self.refused(InvalidStore, [value], play, self.system, value, [], 1)
        for value in [*strange(), 2001, -1, "0", Ratio(1), [0]]:
            self.refused(InvalidSteps, [value], play, self.system, 0, [], value)
        self.assertEqual(play(self.system, 0, [], 2000), ([], None))
        self.assertEqual(play(self.system, 0, ["a"], 0), ([], None))

    def test_answers(self):
        for value in strange():
            if not isinstance(value, (list, tuple)):
                self.refused(InvalidAnswer, [value], play, self.system, 0, value, 0)
            answers = [value]
            self.refused(InvalidAnswer, [answers], play, self.system, 0, answers, 1)
            self.assertEqual(play(self.system, 0, answers, 0), ([], None))
            answers = ("b", value)
            self.refused(InvalidAnswer, [answers], play, self.system, 0, answers, 2)
            self.assertEqual(play(self.system, 0, answers, 1), (["choose b"], None))
            self.assertEqual(play(self.system, 0, ["b", 1, value], 2000), (["choose b", "turn 1 of 2", "back game"], 1))
        for value in ["c", "A", "", "a ", ("a",), 0, True, Space([("x", 2)])]:
            answers = [value]
            self.refused(InvalidAnswer, [answers], play, self.system, 0, answers, 2)
        for value in [2, -1, True, False, Ratio(1), Ratio(0), "0", None, [0]]:
            answers = ["b", value]
            self.refused(InvalidAnswer, [answers], play, self.system, 0, answers, 2)

    def test_ways_to_pass(self):
        asked = ["b", 1]
        want = (["choose b", "turn 1 of 2", "back game"], 1)
        self.assertEqual(play(system=self.system, store=0, answers=tuple(asked), steps=3), want)
        first = play(self.system, 0, asked, 3)
        first[0].clear()
        self.assertEqual(play(self.system, 0, asked, 3), want)
        self.assertEqual(asked, ["b", 1])
        self.assertIs(type(first), tuple)


class Follows(Case):
    def test_as_the_second_way(self):
        rng = random.Random(651)
        for at in range(600):
            system = some_system(rng, True) if at % 2 else small_system(rng)
            for store in range(len(space_of(system))):
                session, items = played(system, store, rng, rng.choice([0, 1, 5, 30, 100]))
                lines, end = play(system, store, items, len(session.lines))
                over = session.asked[0] == "over"
                self.assertEqual(end, session.store() if over else None)
                self.assertEqual(plain(session.lines), lines)
                # Fewer steps, and fewer items, give the first lines; items behind are not looked at.
                steps = rng.randint(0, len(lines))
                self.assertEqual(play(system, store, [*items, None, {}], steps)[0], lines[:steps])
                few = rng.randint(0, len(items))
                short = play(system, store, items[:few], 2000 if over else len(lines))[0]
                self.assertEqual(short, lines[:len(short)])
                if few < len(items):
                    self.assertEqual(taken(short), few)
                    self.assertIn(lines[len(short)].split()[0], ("choose", "turn", "spin"))

    def test_two_thousand_steps(self):
        rng = random.Random(652)
        system = one("while yes { draw x 0 by 1 1 by 1 if x = 0 { set x = 2 } else { } }")
        session, items = played(system, 0, rng, 2000)
        self.assertEqual(play(system, 0, items, 2000), (plain(session.lines), None))
        self.assertEqual(len(session.lines), 2000)

    def test_calls_are_sessions(self):
        rng = random.Random(67)
        count = 0
        while count < 150:
            system = small_system(rng, many=rng.randint(2, 3))
            store = rng.randrange(len(space_of(system)))
            session, items = played(system, store, rng, 60)
            lines, _ = play(system, store, items, len(session.lines))
            for at, line in enumerate(lines):
                if line.startswith("call "):
                    unit = line.split()[1]
                    count += 1
                    back = f"back {unit}"
                    end = lines.index(back, at) + 1 if back in lines[at:] else len(lines)
                    inner = lines[at + 1:end]
                    ahead = play(system, store, items, at)[0]
                    there = self.store_behind(system, store, items[:taken(ahead)], at)
                    names = [name for name, _ in system[2]]
                    cut = (*system[:2], system[2][:names.index(unit) + 1])
                    mine = items[taken(ahead):taken(ahead) + taken(inner)]
                    found, stop = play(cut, there, mine, len(inner))
                    self.assertEqual(found, inner)
                    if end <= len(lines) and lines[end - 1] == back and len(inner) > 0:
                        behind = self.store_behind(system, store, items[:taken(lines[:end])], end, unit)
                        self.assertEqual(stop, behind)

    def store_behind(self, system, store, items, steps, left=None):
        """The store behind steps; behind a back, the store that the unit leaves, ahead of what comes at once."""
        session = of_system(system, store)
        items = list(items)
        for at in range(steps):
            asks = session.asked[0] in ("choose", "turn", "spin")
            kept = session.store()
            session.answer(items.pop(0) if asks else None)
            if at == steps - 1 and left is not None:
                return kept
        return session.store()

    def test_whose_steps(self):
        rng = random.Random(68)
        for _ in range(200):
            system = small_system(rng, parties=3)
            store = rng.randrange(len(space_of(system)))
            session, items = played(system, store, rng, 40)
            want = play(system, store, items, len(session.lines))
            other = (*system[:2], tuple((unit, turned(body, rng, False)) for unit, body in system[2]))
            self.assertEqual(play(other, store, items, len(session.lines)), want)
            drawn = (*system[:2], tuple((unit, turned(body, rng, True)) for unit, body in system[2]))
            lines, end = play(drawn, store, items, len(session.lines))
            self.assertEqual((lines, end), ([line.replace("spin", "turn") for line in want[0]], want[1]))


def turned(body, rng, is_drawn):
    """A body with other parties, perhaps with draws in the place of spins."""
    found = []
    for statement in body:
        kind = statement[0]
        if kind == "spin":
            statement = ("draw", *statement[2:]) if is_drawn else (kind, rng.randint(1, 3), *statement[2:])
        elif kind == "choose":
            pairs = tuple((label, turned(inner, rng, is_drawn)) for label, inner in statement[2])
            statement = (kind, rng.randint(0, 3), pairs)
        elif kind in ("if", "while"):
            statement = (*statement[:2], *[turned(inner, rng, is_drawn) for inner in statement[2:]])
        found.append(statement)
    return tuple(found)


def plain(lines):
    """Lines without the marks of calls."""
    return [" ".join(line.split()[:2]) if line.startswith("call ") else line for line in lines]


def taken(lines):
    return len([line for line in lines if line.split()[0] in ("choose", "turn", "spin")])


if __name__ == "__main__":
    unittest.main()

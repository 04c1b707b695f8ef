"""Tests of evenpatch.compiler."""

import random
import unittest

from helpers import Case, strange
from second import any_answer, small_system
from systems import some_system

from evenpatch.checks import body_of, space_of, statements, unit_names
from evenpatch.code import is_code, lines_of
from evenpatch.compiler import compiled, row_numbers
from evenpatch.errors import InvalidBody, InvalidSystem, InvalidUnit, NotFair
from evenpatch.plain import play
from evenpatch.running import answered, question, settled
from evenpatch.texts import read_system
from evenpatch.webs import web


def lines_by(body, ahead=""):
    system = read_system(f"parties 3 name x 3 name y 2 {ahead} unit game {{ {body} }}")
    return lines_of(compiled(system, "game", body_of(system, "game"))), row_numbers(system, "game", body_of(system, "game"))


class Compiled(Case):
    def test_trees(self):
        self.assertEqual(lines_by("set x = (x + 3) - (y * 2)")[0],
                         ["load x", "push 3", "add", "load y", "push 2", "times", "take", "save x", "back"])
        self.assertEqual(lines_by("if [not [x < 1]] and [[yes] or [x = y]] { } else { }")[0],
                         ["load x", "push 1", "less", "not", "push 1", "load x", "load y", "same", "or", "and", "unless 12",
                          "go 12", "back"])

    def test_statements(self):
        self.assertEqual(lines_by(""), (["back"], []))
        self.assertEqual(lines_by("draw y 1 by 2 0 by 3 spin p3 x 2 by 1 0 by 12 call u", "unit u { }"),
                         (["draw y 1 by 2 0 by 3", "spin 3 x 2 by 1 0 by 12", "call u", "back"], [((0,), 0), ((1,), 1), ((2,), 2)]))

    def test_chooses(self):
        self.assertEqual(lines_by("choose net a { } or b { }"), (["choose 0 a 1 b 2", "go 2", "back"], [((0,), 0)]))
        self.assertEqual(lines_by("choose p2 a { } or b { } or c { }")[0], ["choose 2 a 1 b 2 c 3", "go 3", "go 3", "back"])
        self.assertEqual(lines_by("choose p2 a { set x = 1 } or b { } or c { draw y 0 by 1 1 by 1 } set y = 0"),
                         (["choose 2 a 1 b 4 c 5", "push 1", "save x", "go 6", "go 6", "draw y 0 by 1 1 by 1", "push 0", "save y",
                           "back"], [((0,), 0), ((0, 2, 0), 5)]))

    def test_ifs_and_whiles(self):
        self.assertEqual(lines_by("if yes { set x = 1 } else { set x = 2 }")[0],
                         ["push 1", "unless 5", "push 1", "save x", "go 7", "push 2", "save x", "back"])
        self.assertEqual(lines_by("if yes { } else { set x = 2 }")[0], ["push 1", "unless 3", "go 5", "push 2", "save x", "back"])
        self.assertEqual(lines_by("if yes { set x = 2 } else { }")[0], ["push 1", "unless 5", "push 2", "save x", "go 5", "back"])
        self.assertEqual(lines_by("while yes { }"), (["push 1", "unless 4", "loop", "go 0", "back"], [((0,), 2)]))
        self.assertEqual(lines_by("set y = 0 while x < 1 { while yes { } } set y = 1"),
                         (["push 0", "save y", "load x", "push 1", "less", "unless 12", "loop", "push 1", "unless 11", "loop",
                           "go 7", "go 2", "push 1", "save y", "back"], [((1,), 6), ((1, 0, 0), 9)]))

    def test_greatest_body(self):
        tree = ("name", "x")
        for _ in range(4):
            tree = ("+", tree, tree)
        condition = ("less", tree, tree)
        body = (("if", condition, (), ()),) * 20
        system = (2, (("x", 2),), (("game", ()),))
        code = compiled(system, "game", body)
        self.assertEqual(len(code.rows), 20 * (63 + 2) + 1)
        body = (("while", condition, ()),) * 20
        self.assertEqual(len(compiled(system, "game", body).rows), 20 * (63 + 3) + 1)

    def test_errors(self):
        system = read_system("parties 2 name x 2 unit toss { } unit game { call toss }")
        for call in (compiled, row_numbers):
            self.refused(InvalidSystem, [3], call, 3, 4, 5)
            self.refused(NotFair, ["twice", None, "x"], call, (2, (("x", 2),), (("x", ()),)), 4, 5)
            self.refused(InvalidUnit, [4], call, system, 4, 5)
            self.refused(InvalidBody, [5], call, system, "toss", 5)
            self.refused(NotFair, ["call", "toss", "game"], call, system, "toss", (("call", "game"),))
            for value in strange():
                self.refused(InvalidUnit, [value], call, system, value, ())
                if value != ():
                    self.refused(InvalidBody, [value], call, system, "game", value)
        self.assertEqual(compiled(system=system, unit="game", body=()).rows, (("back",),))
        row_numbers(system, "game", (("call", "toss"),)).clear()
        self.assertEqual(row_numbers(system=system, unit="game", body=(("call", "toss"),)), [((0,), 0)])


class Follows(Case):
    def test_step_by_step(self):
        """Compiled code, the places of a web, and `play` do the same steps."""
        rng = random.Random(107)
        seen = {}
        for at in range(500):
            system = some_system(rng, True) if at % 3 == 0 else small_system(rng)
            space = space_of(system)
            for unit, body in system[2]:
                code = compiled(system, unit, body)
                self.assertIs(is_code(code.rows), True)
                self.assertEqual(seen.setdefault(code.rows, body), body)
                numbers = row_numbers(system, unit, body)
                self.assertEqual(sorted(numbers), numbers)
                asked = [path for path, one in statements(system, unit) if one[0] not in ("set", "if")]
                self.assertEqual([path for path, _ in numbers], asked)
            for store in range(len(space)):
                self.walk(rng, system, space, store)

    def walk(self, rng, system, space, store):
        codes = {unit: compiled(system, unit, body) for unit, body in system[2]}
        nets = {}
        numbers = {}
        for unit in unit_names(system):
            families = {name: [[[tuple(int(k == 0) for k in range(len(space) + 1))]]] * len(space) for name in unit_names(system)}
            nets[unit] = web(system, unit, (), families, "S")
            numbers[unit] = {path: at for path, at in row_numbers(system, unit, body_of(system, unit))}
        last = unit_names(system)[-1]
        frames = [(last, *settled(space, codes[last], 0, store))]
        self.belongs(codes, numbers, frames[-1], nets[last].first(store))
        lines, items = [], []
        for _ in range(30):
            unit, at, now = frames[-1]
            code = codes[unit]
            asked = question(code, at)
            if asked[0] == "back":
                lines.append(f"back {unit}")
                frames.pop()
                if not frames:
                    break
                caller, waits, kept = frames[-1]
                path = next(path for path, number in numbers[caller].items() if number == waits)
                place = nets[caller].behind((path, kept), now)
                frames[-1] = (caller, *answered(space, codes[caller], waits, kept, now))
                self.belongs(codes, numbers, frames[-1], place)
                continue
            answer = any_answer(rng, asked)
            if asked[0] == "call":
                lines.append(f"call {asked[1]}")
                frames.append((asked[1], *settled(space, codes[asked[1]], 0, now)))
                self.belongs(codes, numbers, frames[-1], nets[asked[1]].first(now))
                continue
            if answer is not None:
                items.append(answer)
            word = {"choose": f"choose {answer}", "loop": "loop"}.get(asked[0], f"{asked[0]} {answer} of {asked[-1]}")
            lines.append(word)
            frames[-1] = (unit, *answered(space, code, at, now, answer))
            path = next(path for path, number in numbers[unit].items() if number == at)
            places = [place for move in nets[unit].moves((path, now)) for place, _ in move]
            self.assertTrue(any(self.fits(codes, numbers, frames[-1], place) for place in places))
        end = None if frames else now
        self.assertEqual(play(system, store, items, len(lines)), (lines, end))

    def fits(self, codes, numbers, frame, place):
        unit, at, store = frame
        if isinstance(place, int):
            return (at, store) == (len(codes[unit].rows) - 1, place)
        return (at, store) == (numbers[unit][place[0]], place[1])

    def belongs(self, codes, numbers, frame, place):
        self.assertTrue(self.fits(codes, numbers, frame, place))


if __name__ == "__main__":
    unittest.main()

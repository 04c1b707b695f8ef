import random
import unittest

from evenpatch.checks import (body_of, calls_of, check_system, is_fair, space_of, statements, unit_names, with_body)
from evenpatch.errors import InvalidBody, InvalidSystem, InvalidUnit, NotFair
from evenpatch.spaces import Space
from evenpatch.texts import is_tree, read_system
from helpers import Case, deep, strange
from systems import some_system

PAIRS = ((0, 1), (1, 1))
SET = ("set", "x", ("num", 0))
YES = ("yes",)
NO_FAIR = (2, (("x", 2), ("x", 2)), (("u", ()),))


def one(*rows, names=(("x", 2),)):
    return 2, names, (("u", rows),)


def tosses():
    toss = ("toss", (("spin", 1, "x", ((0, 1), (1, 2))),))
    game = ("game", (("choose", 2, (("go", (("call", "toss"),)), ("stay", ()))), ("set", "x", ("num", 1))))
    return 2, (("x", 2),), (toss, game)


class Fair(Case):
    def fault(self, system, *told):
        self.assertIs(is_tree(system), True)
        self.assertIs(is_fair(system), False)
        self.refused(NotFair, told, check_system, system)

    def test_made_systems(self):
        rng = random.Random(61)
        for _ in range(200):
            system = some_system(rng, True)
            self.assertIsNone(check_system(system))
            self.assertIs(is_fair(system), True)
        odd = 0
        for _ in range(200):
            system = some_system(rng)
            if not is_fair(system):
                odd += 1
                with self.assertRaises(NotFair):
                    check_system(system)
        self.assertGreater(odd, 150)

    def test_no_systems(self):
        for value in [*strange(), (2, (("x", 2),), ()), [2, (("x", 2),), (("u", ()),)]]:
            self.assertIs(is_fair(value), False)
            self.refused(InvalidSystem, [value], check_system, value)
            for call in (space_of, unit_names):
                self.refused(InvalidSystem, [value], call, value)
            for call in (body_of, statements, calls_of):
                self.refused(InvalidSystem, [value], call, value, None)
            self.refused(InvalidSystem, [value], with_body, value, None, None)

    def test_twice(self):
        for names, units, word in (((("x", 2), ("x", 2)), ("u",), "x"), ((("x", 2),), ("u", "x"), "x"),
                                   ((("x", 2),), ("u", "v", "u", "v"), "u"), ((("x", 2), ("y", 2)), ("y", "x"), "y")):
            self.fault((2, names, tuple((unit, ()) for unit in units)), "twice", None, word)
        self.fault((2, (("x", 6), ("x", 6)), (("u", (("call", "q"),)),)), "twice", None, "x")

    def test_stores(self):
        self.fault((2, (("x", 3), ("y", 3)), (("u", (("set", "z", ("num", 0)),)),)), "stores", None, "y")
        for sizes in ((2, 4), (4, 2), (2, 6), (6, 2), (6, 6), (3, 3)):
            self.fault(one(names=tuple(zip("xy", sizes))), "stores", None, "y")
        for names in ((("x", 2), ("y", 3)), (("x", 3), ("y", 2)), (("x", 2), ("y", 2)), (("x", 6),)):
            self.assertIsNone(check_system(one(names=names)))

    def test_names(self):
        x, a, b, u = [("name", word) for word in "xabu"]
        for row, word in ((("set", "a", b), "a"), (("set", "x", ("+", x, ("-", a, b))), "a"), (("set", "u", x), "u"),
                          (("set", "x", ("*", ("-", b, a), x)), "b"), (("draw", "a", PAIRS), "a"),
                          (("spin", 2, "b", PAIRS), "b"), (("if", ("and", ("less", x, b), ("same", a, x)), (), ()), "b"),
                          (("while", ("not", ("or", YES, ("same", x, u))), (("set", "q", x),)), "u"),
                          (("if", YES, (("set", "x", a),), (("set", "b", x),)), "a"),
                          (("while", YES, (("draw", "b", PAIRS),)), "b"),
                          (("choose", 0, (("a", ()), ("b", (("set", "x", b),)))), "b")):
            self.fault(one(row), "name", "u", word)
            self.fault(one(SET, row, ("call", "q")), "name", "u", word)

    def test_values(self):
        for pairs in (((0, 1), (0, 1)), ((0, 1), (2, 1)), ((5, 1), (0, 1)), ((0, 1), (1, 1), (0, 2))):
            self.fault(one(("draw", "x", pairs)), "value", "u", "x")
            self.fault(one(("spin", 1, "x", pairs)), "value", "u", "x")
        self.fault(one(("draw", "y", ((0, 1), (3, 1))), names=(("x", 2), ("y", 3))), "value", "u", "y")
        self.fault(one(("draw", "y", ((0, 1), (0, 1)))), "name", "u", "y")
        self.assertIsNone(check_system(one(("draw", "y", ((2, 1), (0, 1), (1, 12))), names=(("x", 2), ("y", 3)))))

    def test_labels(self):
        for labels, word in (("aa", "a"), ("aba", "a"), ("abb", "b"), ("aab", "a")):
            row = ("choose", 1, tuple((label, (("call", "q"),)) for label in labels))
            self.fault(one(row), "label", "u", word)
        inner = ("choose", 0, (("x", ()), ("u", ()), ("a", ())))
        self.assertIsNone(check_system(one(("choose", 0, (("a", (inner,)), ("u", (inner,)))))))

    def test_calls(self):
        for word in ("u", "x", "q"):
            self.fault(one(("call", word)), "call", "u", word)
        system = (2, (("x", 2),), (("u", ()), ("v", (("call", "u"), ("call", "w"))), ("w", (("call", "v"),))))
        self.fault(system, "call", "v", "w")
        self.fault((2, (("x", 2),), (("u", ()), ("v", (("call", "v"),)))), "call", "v", "v")

    def test_the_first_thing_counts(self):
        bad_set, bad_call = ("set", "q", ("num", 0)), ("call", "q")
        bad_draw = ("draw", "x", ((0, 1), (0, 1)))
        bad_choose = ("choose", 0, (("a", (bad_call,)), ("a", (bad_set,))))
        self.fault(one(bad_call, bad_set), "call", "u", "q")
        self.fault(one(("if", YES, (bad_draw,), (bad_set,)), bad_call), "value", "u", "x")
        self.fault(one(("if", YES, (), (bad_set,)), bad_draw), "name", "u", "q")
        self.fault(one(bad_choose, bad_draw), "label", "u", "a")
        self.fault((2, (("x", 2),), (("u", (SET,)), ("v", (bad_draw,)), ("w", (bad_set,)))), "value", "v", "x")

    def test_who_chooses_is_not_asked(self):
        self.assertIsNone(check_system((3, (("x", 2),), (("u", (("spin", 3, "x", PAIRS),)), ("v", ())))))


class Parts(Case):
    def test_examples(self):
        system = tosses()
        space = space_of(system=system)
        self.assertIs(type(space), Space)
        self.assertEqual(space, Space([("x", 2)]))
        self.assertEqual(unit_names(system=system), ["toss", "game"])
        self.assertIs(body_of(system, "game"), system[2][1][1])
        self.assertEqual(calls_of(system=system, unit="game"), ["toss"])
        self.assertEqual(calls_of(system, "toss"), [])
        body = system[2][1][1]
        self.assertEqual(statements(system=system, unit="game"),
                         [((0,), body[0]), ((0, 0, 0), ("call", "toss")), ((1,), body[1])])

    def test_paths(self):
        text = """parties 2 name x 2 unit u { } unit v {
            if yes { set x = 0 } else { call u while yes { set x = 1 } } choose p1 a { } or b { } or c { set x = 0 set x = 0 }
            if yes { } else { if yes { } else { call u } } }"""
        system = read_system(text)
        found = statements(system, "v")
        self.assertEqual([path for path, row in found],
                         [(0,), (0, 0, 0), (0, 1, 0), (0, 1, 1), (0, 1, 1, 0, 0), (1,), (1, 2, 0), (1, 2, 1), (2,),
                          (2, 1, 0), (2, 1, 0, 1, 0)])
        self.assertEqual([row[0] for path, row in found],
                         "if set call while set choose set set if if call".split())
        for path, row in found:
            self.assertEqual(self.at(body_of(system, "v"), path), row)

    def at(self, body, path):
        row = body[path[0]]
        if len(path) == 1:
            return row
        if row[0] == "choose":
            return self.at(row[2][path[1]][1], path[2:])
        return self.at(row[2 + path[1]], path[2:]) if row[0] == "if" else self.at(row[2], path[2:])

    def test_paths_ascend(self):
        rng = random.Random(62)
        for _ in range(100):
            system = some_system(rng, True)
            for unit in unit_names(system):
                found = statements(system, unit)
                paths = [path for path, row in found]
                self.assertEqual(paths, sorted(set(paths)))
                for path, row in found:
                    self.assertEqual(self.at(body_of(system, unit), path), row)
                called = {row[1] for path, row in found if row[0] == "call"}
                self.assertEqual(calls_of(system, unit), [name for name in unit_names(system) if name in called])

    def test_calls_in_the_order_of_the_units(self):
        text = """parties 2 name x 2 unit b { } unit a { } unit c { call a call b if yes { call a } else { call b } }
            unit d { call c }"""
        system = read_system(text)
        self.assertEqual(calls_of(system, "c"), ["b", "a"])
        self.assertEqual(calls_of(system, "d"), ["c"])

    def test_lists_are_new(self):
        system = tosses()
        for call in (lambda: unit_names(system), lambda: statements(system, "game"), lambda: calls_of(system, "game")):
            found = call()
            found.clear()
            self.assertNotEqual(call(), [])

    def test_errors_and_their_order(self):
        system = tosses()
        for unit in [*strange(), "x", "go", ["toss"], ("toss", ())]:
            for call in (body_of, statements, calls_of):
                self.refused(InvalidUnit, [unit], call, system, unit)
            self.refused(InvalidUnit, [unit], with_body, system, unit, "x")
        for call in (space_of, unit_names):
            self.refused(NotFair, ["twice", None, "x"], call, NO_FAIR)
        for call in (body_of, statements, calls_of):
            self.refused(NotFair, ["twice", None, "x"], call, NO_FAIR, None)
        self.refused(NotFair, ["twice", None, "x"], with_body, NO_FAIR, None, None)


class Bodies(Case):
    def test_other_bodies(self):
        system = tosses()
        self.assertEqual(with_body(system, "game", ()), (2, (("x", 2),), (system[2][0], ("game", ()))))
        self.assertEqual(with_body(system=system, unit="toss", body=(SET,)), (2, (("x", 2),), (("toss", (SET,)), system[2][1])))
        self.assertEqual(system, tosses())
        for unit in ("toss", "game"):
            self.assertEqual(with_body(system, unit, body_of(system, unit)), system)

    def test_no_bodies(self):
        system = tosses()
        for body in [*[value for value in strange() if value != ()], [], [SET], SET, (SET,) * 21, (("spin", 3, "x", PAIRS),),
                     (["set", "x", ("num", 0)],), (("set", "x", ("num", True)),), deep(87), (deep(86),),
                     (("if", YES, deep(85), ()),)]:
            self.refused(InvalidBody, [body], with_body, system, "toss", body)
        inner = ()
        for _ in range(42):
            inner = (("if", YES, inner, inner),)
        self.refused(InvalidBody, [inner], with_body, system, "game", inner)

    def test_more_than_forty_statements(self):
        system = (2, (("x", 2),), (("u", (SET,) * 15), ("v", (SET,) * 10), ("w", ())))
        self.assertEqual(len(with_body(system, "w", (SET,) * 15)[2][2][1]), 15)
        for row in (SET, ("call", "q")):
            body = (row,) * 16
            self.refused(InvalidBody, [body], with_body, system, "w", body)
        self.assertEqual(with_body(system, "u", (SET,) * 20)[2][0][1], (SET,) * 20)

    def test_not_fair(self):
        system = tosses()
        for unit, body, told in (("toss", (("call", "game"),), ("call", "toss", "game")),
                                 ("toss", (("call", "toss"),), ("call", "toss", "toss")),
                                 ("game", (("set", "toss", ("num", 0)),), ("name", "game", "toss")),
                                 ("game", (("draw", "x", ((0, 1), (2, 1))),), ("value", "game", "x")),
                                 ("game", (SET, ("choose", 0, (("a", ()), ("a", ())))), ("label", "game", "a"))):
            self.refused(NotFair, told, with_body, system, unit, body)

    def test_what_it_hangs_on(self):
        rng = random.Random(63)
        refused = 0
        for _ in range(200):
            system = some_system(rng, True)
            parties, names, units = system
            unit = rng.choice(unit_names(system))
            row = ("set", names[0][0], ("num", 0))
            others = [(name, (row,) * len(statements(system, name))) for name, body in units]
            again = (parties, names, tuple((name, () if name == unit else body) for name, body in others))
            bodies = [body for name, body in some_system(rng)[2] + some_system(rng, True)[2]]
            for body in [*bodies, (row,) * rng.randint(0, 25)]:
                told = self.answer(system, unit, body)
                self.assertEqual(told, self.answer(again, unit, body))
                refused += told is not None
        self.assertGreater(refused, 200)

    def answer(self, system, unit, body):
        """How a body is refused, None if it is taken."""
        try:
            with_body(system, unit, body)
        except (InvalidBody, NotFair) as error:
            return type(error), list(vars(error).values())
        return None


if __name__ == "__main__":
    unittest.main()

import random
import unittest

from evenpatch.ratios import Ratio
from evenpatch.texts import is_tree
from helpers import Case, deep, strange
from systems import Maker, count, some_system

SET = ("set", "x", ("num", 0))
YES = ("yes",)


def system(*bodies):
    return 2, (("x", 2),), tuple(("u", body) for body in bodies)


def one(statement):
    return system((statement,))


def sums(depth):
    tree = ("num", 1)
    for _ in range(depth - 1):
        tree = ("+", ("name", "x"), tree)
    return tree


def nots(depth):
    tree = YES
    for _ in range(depth - 1):
        tree = ("not", tree)
    return tree


def whiles(many):
    body = ()
    for _ in range(many):
        body = (("if", YES, (("while", YES, body),), ()),)
    return body


class Trees(Case):
    def test_made_systems(self):
        rng = random.Random(41)
        for at in range(300):
            made = some_system(rng, at % 2 == 0)
            self.assertIs(is_tree(made), True)
            self.assertLessEqual(sum(count(body) for unit, body in made[2]), 40)

    def test_any_values(self):
        for value in strange():
            self.assertIs(is_tree(value), False)
        self.assertIs(is_tree(value=system(())), True)

    def test_head(self):
        names, units = (("x", 2),), (("u", ()),)
        for parties, told in ((2, True), (3, True), (1, False), (4, False), (True, False), (Ratio(2), False),
                              ("2", False), (None, False), (0, False)):
            self.assertIs(is_tree((parties, names, units)), told)
        for value in ([2, names, units], (2, names), (2, names, units, ()), (2, list(names), units),
                      (2, names, list(units))):
            self.assertIs(is_tree(value), False)

    def test_names(self):
        for names, told in (((("x", 2), ("x", 6)), True), ((("x", 6), ("y", 6)), True), ((), False),
                            ((("x", 2),) * 3, False), ((("x", 1),), False), ((("x", 7),), False),
                            ((("set", 2),), False), ((("X", 2),), False), ((("abcdefghi", 2),), False),
                            ((("abcdefgh", 2),), True), ((["x", 2],), False), ((("x", True),), False),
                            ((("x", 2, 3),), False), ((("x",),), False), (("x", 2), False), ((("", 2),), False),
                            ((("x2", 2),), False), (((["x"], 2),), False)):
            self.assertIs(is_tree((2, names, (("u", ()),))), told, names)

    def test_units(self):
        unit = ("u", ())
        for units, told in (((unit,) * 4, True), ((unit,) * 5, False), ((), False), ((("u", []),), False),
                            ((["u", ()],), False), ((("unit", ()),), False), ((("u",),), False), (unit, False),
                            ((("u", (), ()),), False), ((("u", None),), False), ((("u", SET),), False)):
            self.assertIs(is_tree((2, (("x", 2),), units)), told, units)

    def test_plain_statements(self):
        pairs = ((0, 1), (5, 12))
        for statement, told in (
                (SET, True), (("set", "x"), False), (("set", "x", ("num", 0), ()), False), (("set", 1, ("num", 0)), False),
                (("set", "set", ("num", 0)), False), (["set", "x", ("num", 0)], False), (("set", "x", 3), False),
                (("draw", "x", pairs), True), (("draw", "x", pairs + pairs[:1]), True), (("draw", "x", pairs * 2), False),
                (("draw", "x", pairs[:1]), False), (("draw", "x", list(pairs)), False), (("draw", "if", pairs), False),
                (("draw", "x", ((0, 1), (6, 1))), False), (("draw", "x", ((0, 1), (-1, 1))), False),
                (("draw", "x", ((0, 0), (1, 1))), False), (("draw", "x", ((0, 13), (1, 1))), False),
                (("draw", "x", ((0, True), (1, 1))), False), (("draw", "x", ((False, 1), (1, 1))), False),
                (("draw", "x", ([0, 1], (1, 1))), False), (("draw", "x", ((0, 1, 1), (1, 1))), False),
                (("draw", "x", ((0, Ratio(1)), (1, 1))), False), (("draw", 1, "x", pairs), False),
                (("spin", 1, "x", pairs), True), (("spin", 2, "x", pairs), True), (("spin", 3, "x", pairs), False),
                (("spin", 0, "x", pairs), False), (("spin", True, "x", pairs), False), (("spin", "x", pairs), False),
                (("spin", 1, "x", ()), False), (("draw", "x", pairs, ()), False), (("spin", 1, "x", pairs, ()), False),
                (("spin", 1, "X", pairs), False), (("spin", 1, None, pairs), False), (("call", "u"), True),
                (("call", "x"), True), (("call", "call"), False),
                (("call",), False), (("call", "u", "v"), False), (("call", None), False), (("halt", "x"), False),
                ((), False), ("set", False), (None, False), ((("set",), "x", ("num", 0)), False)):
            self.assertIs(is_tree(one(statement)), told, statement)
        self.assertIs(is_tree((3, (("x", 2),), (("u", (("spin", 3, "x", pairs),)),))), True)

    def test_statements_with_bodies(self):
        ways = (("a", ()), ("a", (SET,)))
        for statement, told in (
                (("choose", 0, ways), True), (("choose", 2, ways + ways[:1]), True), (("choose", 3, ways), False),
                (("choose", -1, ways), False), (("choose", False, ways), False), (("choose", 0, ways * 2), False),
                (("choose", 0, ways[:1]), False), (("choose", 0, list(ways)), False), (("choose", 0, (("a", ()), 3)), False),
                (("choose", 0, (("a", ()), ["a", ()])), False), (("choose", 0, (("or", ()), ("a", ()))), False),
                (("choose", 0, (("a", ()), ("a",))), False), (("choose", 0, (("a", ()), ("a", [SET]))), False),
                (("choose", 0), False), (("choose", 0, ways, ()), False), (("choose", None, ways), False),
                (("if", YES, (), ()), True), (("if", YES, ()), False), (("if", YES, (SET,), (SET, SET)), True),
                (("if", ("num", 1), (), ()), False), (("if", YES, [], ()), False), (("if", YES, (), (), ()), False),
                (("while", YES, ()), True), (("while", YES, (), ()), False), (("while", YES), False),
                (("while", "yes", ()), False), (("while", YES, (("set",),)), False)):
            self.assertIs(is_tree(one(statement)), told, statement)

    def test_trees_in_them(self):
        for tree, told in ((("num", 0), True), (("num", 99), True), (("num", 100), False), (("num", -1), False),
                           (("num", True), False), (("num", Ratio(3)), False), (("name", "q"), True),
                           (("name", "yes"), False), (("num",), False), (("name", "x", "y"), False), (["num", 1], False),
                           (("/", ("num", 1), ("num", 1)), False), (("+", ("num", 1)), False), (YES, False),
                           (("-", ("num", 1), ("name", "x")), True), (("*", ("num", 1), YES), False),
                           (("*", YES, ("num", 1)), False), (("-", ("num", 100), ("num", 1)), False),
                           (("word", "x"), False), (("n", 1), False)):
            self.assertIs(is_tree(one(("set", "x", tree))), told, tree)
        num = ("num", 1)
        for tree, told in ((YES, True), (("less", num, num), True), (("same", num, num), True), (("not", YES), True),
                           (("and", YES, YES), True), (("or", YES, ("not", YES)), True), (("yes", YES), False),
                           (("not", num), False), (("less", YES, YES), False), (("and", YES, num), False),
                           (("same", num), False), (["yes"], False), ((), False), (("not", YES, YES), False),
                           (("more", num, num), False), (num, False), (("and", num, YES), False), (("or", num, YES), False),
                           (("less", YES, num), False), (("same", num, YES), False), (("or", YES, num), False),
                           (("xor", YES, YES), False)):
            self.assertIs(is_tree(one(("while", tree, ()))), told, tree)
            self.assertIs(is_tree(one(("if", tree, (), ()))), told, tree)

    def test_depths(self):
        self.assertIs(is_tree(one(("set", "x", sums(6)))), True)
        self.assertIs(is_tree(one(("set", "x", sums(7)))), False)
        for depth in range(1, 8):
            self.assertIs(is_tree(one(("while", nots(depth), ()))), depth <= 6)
            self.assertIs(is_tree(one(("if", ("less", ("num", 1), sums(depth)), (), ()))), depth <= 5)
            self.assertIs(is_tree(one(("if", ("and", YES, ("same", sums(depth), ("num", 1))), (), ()))), depth <= 4)

    def test_numbers_of_statements(self):
        self.assertIs(is_tree(system((SET,) * 20)), True)
        self.assertIs(is_tree(system((SET,) * 21)), False)
        self.assertIs(is_tree(system((SET,) * 20, (SET,) * 20)), True)
        self.assertIs(is_tree(system((SET,) * 20, (SET,) * 20, (SET,))), False)
        self.assertIs(is_tree(system((SET,) * 14, (SET,) * 13, (SET,) * 13)), True)
        self.assertIs(is_tree(system((SET,) * 14, (SET,) * 13, (SET,) * 14)), False)
        for inner in ((SET,) * 9, (SET,) * 10):
            for statement in (("if", YES, inner, inner), ("choose", 0, (("a", inner), ("b", inner)))):
                self.assertIs(is_tree(system((statement, SET))), len(inner) == 9)
        self.assertIs(is_tree(one(("while", YES, (SET,) * 19))), True)
        self.assertIs(is_tree(one(("while", YES, (SET,) * 20))), False)
        self.assertIs(is_tree(system((("while", YES, (SET,) * 19), SET))), False)
        self.assertIs(is_tree(system((SET, ("while", YES, (SET,) * 19)))), False)
        self.assertIs(is_tree(system((SET, ("while", YES, (SET,) * 18)))), True)

    def test_numbers_of_statements_of_any_shape(self):
        rng = random.Random(42)
        told = {True: 0, False: 0}
        while min(told.values()) < 100:
            bodies = [Maker(rng, 2, (("x", 2),), ["u"], rng.randint(15, 25), False).body(0, 0) for _ in range(3)]
            sizes = [count(body) for body in bodies]
            answer = max(sizes) <= 20 and sum(sizes) <= 40
            self.assertIs(is_tree(system(*bodies)), answer)
            told[answer] += 1

    def test_whiles(self):
        for many in range(5):
            self.assertIs(is_tree(system(whiles(many))), many <= 3)
        self.assertIs(is_tree(system(whiles(3) + whiles(3))), True)
        self.assertIs(is_tree(one(("choose", 0, (("a", whiles(3)), ("b", whiles(4)))))), False)

    def test_nested_deep(self):
        for levels in (10, 85):
            inner = deep(levels)
            for value in (one(inner), one(("if", YES, inner, ())), one(("set", "x", inner)), one(("while", inner, ())),
                          (2, inner, ()), (inner, inner, inner)):
                self.assertIs(is_tree(value), False)

    def test_one_tuple_at_many_places(self):
        body, sum_tree, and_tree = (), ("num", 1), YES
        for _ in range(42):
            body = (("if", YES, body, body),)
        for _ in range(80):
            sum_tree, and_tree = ("+", sum_tree, sum_tree), ("and", and_tree, and_tree)
        self.assertIs(is_tree(system(body)), False)
        self.assertIs(is_tree(one(("set", "x", sum_tree))), False)
        self.assertIs(is_tree(one(("while", and_tree, ()))), False)


if __name__ == "__main__":
    unittest.main()

"""Tests of evenpatch.code and evenpatch.running."""

import random
import unittest

from helpers import Case, strange

from evenpatch.code import Code, is_code, lines_of, read_code
from evenpatch.errors import InvalidAnswer, InvalidCode, InvalidLines, InvalidNames, InvalidRow, InvalidStore
from evenpatch.ratios import Ratio
from evenpatch.running import answered, question, settled
from evenpatch.spaces import Space

BACK = ("back",)
PAIRS = ((0, 1), (1, 12))
ASKING = ("loop", "draw", "spin", "choose", "call", "back")
TAKES = {"add": 2, "take": 2, "times": 2, "less": 2, "same": 2, "and": 2, "or": 2, "not": 1, "save": 1, "unless": 1}
PUTS = ("push", "load", "add", "take", "times", "less", "same", "not", "and", "or")


def behind(rows, at):
    """The numbers of the rows that may come behind one, by the document's words."""
    row = rows[at]
    found = [row[1]] if row[0] in ("unless", "go") else []
    if row[0] == "choose":
        found = [target for _, target in row[2]]
    if row[0] not in ("go", "choose", "back"):
        found.append(at + 1)
    return found


def told(rows):
    """The heights and the ranks of rows of the right form, found by going on until nothing changes; None if wrong."""
    heights = {0: 0}
    for _ in rows:
        for at in list(heights):
            take = TAKES.get(rows[at][0], 0)
            if take > heights[at] or (rows[at][0] in ASKING and heights[at]):
                return None
            for other in behind(rows, at):
                if heights.setdefault(other, heights[at] - take + (rows[at][0] in PUTS)) != heights[at] - take + \
                        (rows[at][0] in PUTS):
                    return None
    if len(heights) < len(rows):
        return None
    ranks = {at: 0 for at, row in enumerate(rows) if row[0] in ASKING}
    for _ in rows:
        for at in range(len(rows)):
            if at not in ranks and all(other in ranks for other in behind(rows, at)):
                ranks[at] = 1 + max(ranks[other] for other in behind(rows, at))
    if len(ranks) < len(rows):
        return None
    return tuple(heights[at] for at in range(len(rows))), tuple(ranks[at] for at in range(len(rows)))


def some_rows(rng, many):
    """Rows of the right form that end in a back, with few mistakes."""
    rows = []
    height = 0
    for at in range(many - 1):
        kinds = ["push", "load"]
        if height == 0:
            kinds += ["loop", "draw", "spin", "call", "go", "choose", "loop"]
        if height >= 1:
            kinds += ["save", "unless", "not", "save"]
        if height >= 2:
            kinds = ["add", "take", "times", "less", "same", "and", "or", "save"]
        kind = rng.choice(kinds)
        if rng.random() < 0.01:
            kind = rng.choice(["save", "loop", "push", "go"])
        target = rng.choice([at + 1, min(at + 2, many - 1), rng.randrange(many)])
        items = {"push": (rng.randint(0, 99),), "load": ("x",), "save": ("x",), "unless": (target,), "go": (target,),
                 "draw": ("x", PAIRS), "spin": (rng.randint(1, 3), "x", PAIRS), "call": ("toss",),
                 "choose": (rng.randint(0, 3), (("a", target), ("b", at + 1)))}.get(kind, ())
        rows.append((kind, *items))
        height += (kind in PUTS) - TAKES.get(kind, 0)
    return [*rows, BACK]


class Codes(Case):
    def test_rows(self):
        good = [("push", 0), ("push", 99), ("load", "x"), ("save", "abcdefgh"), ("unless", 3), ("go", 3), ("add",), ("take",),
                ("times",), ("less",), ("same",), ("not",), ("and",), ("or",), ("loop",), ("draw", "x", PAIRS),
                ("draw", "x", ((5, 1), (0, 12), (3, 5))), ("spin", 1, "x", PAIRS), ("spin", 3, "x", PAIRS),
                ("choose", 0, (("a", 3), ("b", 3))), ("choose", 3, (("a", 3), ("b", 3), ("c", 3))), ("call", "toss")]
        for row in good:
            self.assertIs(self.within(row), True, row)
        bad = [("push",), ("push", 100), ("push", -1), ("push", True), ("push", Ratio(1)), ("push", 1, 2), ["push", 1], ("load", "X"),
               ("load", "set"), ("load", ""), ("load", 1), ("save", "abcdefghi"), ("save",), ("unless", 4), ("unless", -1), ("go", 10 ** 9),
               ("go", True), ("go", "3"), ("add", 1), ("loop", None), ("back", 1), ("draw", "x", PAIRS[:1]), ("draw", "x", list(PAIRS)),
               ("draw", "x", ((0, 1), (0, 1))), ("draw", "x", ((6, 1), (0, 1))), ("draw", "x", ((0, 0), (1, 1))),
               ("draw", "x", ((0, 13), (1, 1))), ("draw", "x", ((0, True), (1, 1))), ("spin", 0, "x", PAIRS), ("spin", 4, "x", PAIRS),
               ("spin", True, "x", PAIRS), ("spin", "x", PAIRS), ("choose", 4, (("a", 3), ("b", 3))), ("choose", -1, (("a", 3), ("b", 3))),
               ("choose", 0, (("a", 3),)), ("choose", 0, (("a", 3), ("a", 3))), ("choose", 0, (("a", 4), ("b", 3))),
               ("choose", 0, (("a", 3), ("yes", 3))), ("choose", 0, [("a", 3), ("b", 3)]), ("choose", 0, (["a", 3], ("b", 3))),
               ("choose", 0, (("a", 3),) * 4), ("choose", False, (("a", 3), ("b", 3))), ("call", 1), ("call", "if"), ("jump", 3), (1,), (),
               ("fork", 0, (("a", 3), ("b", 3))), ("spin", 1, "x", PAIRS, 0), ("draw", "x", PAIRS, 0), ("draw", "x"),
               ("choose", 0, (("a", 3), ("b", 3)), 0), ("spin", 1, "yes", PAIRS), ("draw", "if", PAIRS), ("draw", "X", PAIRS),
               ("choose", 0, (("a", 3), ("b", 3), ("c", 3), ("d", 3))), ("choose", 0, (("a", 3, 3), ("b", 3))),
               ("choose", 0, (("a",), ("b", 3))), ("choose", 0, ("ab", ("b", 3))), ("choose", 0, ())]
        for row in [*bad, *strange()]:
            self.assertIs(self.within(row), False, row)

    def within(self, row):
        """Whether there is a code of this row with rows around it that fit."""
        take = TAKES.get(row[0], 0) if isinstance(row, tuple) and row and isinstance(row[0], str) else 0
        left = 0 if not isinstance(row, tuple) or not row or row[0] not in PUTS else 1
        rows = [("push", 1)] * take + [row] + [("save", "x")] * left
        if isinstance(row, tuple) and row[:1] in (("go",), ("unless",), ("choose",), ("fork",)):
            rows = [*rows, BACK] if take else rows + [BACK]
            return is_code([self.moved(item, len(rows) - 1) for item in rows])
        return is_code([*rows, BACK])

    def moved(self, row, last):
        """A row of which the number 3 stands for the last row."""
        if row[:1] in (("go",), ("unless",)) and len(row) == 2 and row[1] == 3 and not isinstance(row[1], bool):
            return row[0], last
        if row[:1] in (("choose",), ("fork",)) and len(row) == 3 and isinstance(row[2], tuple):
            return (*row[:2], tuple((item[0], last if item[1] == 3 else item[1], *item[2:])
                                    if isinstance(item, tuple) and len(item) > 1 else item for item in row[2]))
        return row

    def test_backs_and_numbers(self):
        for rows, want in [([BACK], True), ((BACK,), True), ([], False), ([BACK, BACK], False), ([("loop",)], False),
                           ([("push", 1), BACK], False), ([("push", 1), ("save", "x"), BACK], True),
                           ([("go", 1), BACK], True), ([("go", 0), BACK], False), ([("loop",), ("go", 0)], False),
                           ([("loop",), ("go", 0), BACK], False), ([("loop",), ("push", 1), ("unless", 0), BACK], True),
                           ([("push", 1), ("unless", 0), BACK], False), ([("push", 1), ("unless", 2), BACK], True),
                           ([("go", 2), ("loop",), BACK], False), ([("save", "x"), BACK], False),
                           ([("push", 1), ("loop",), ("save", "x"), BACK], False), ([("push", 1), ("add",), BACK], False),
                           ([("push", 1), ("push", 1), ("add",), ("save", "x"), BACK], True),
                           ([("push", 1), ("unless", 3), ("push", 2), BACK], False),
                           ([("push", 1), ("unless", 3), ("push", 2), ("save", "x"), BACK], False),
                           ([("push", 2), ("push", 1), ("unless", 4), ("go", 4), ("save", "x"), BACK], True),
                           ([("choose", 0, (("a", 1), ("b", 1))), BACK], True),
                           ([("choose", 0, (("a", 0), ("b", 1))), BACK], True),
                           ([("choose", 0, (("a", 0), ("b", 0))), BACK], False)]:
            self.assertIs(is_code(rows), want, rows)
            if want:
                self.assertEqual(Code(rows).rows, tuple(rows))
            else:
                self.refused(InvalidCode, [rows], Code, rows)

    def test_numbers_just_behind_the_last_row(self):
        for rows in [[("go", 2), BACK], [("push", 1), ("unless", 3), BACK], [("choose", 0, (("a", 1), ("b", 2))), BACK]]:
            self.assertIs(is_code(rows), False)

    def test_many_rows(self):
        most = [("push", 1), ("save", "x")] * 699 + [("loop",), BACK]
        self.assertIs(is_code(most), True)
        self.assertIs(is_code([("loop",), *most]), False)
        self.assertEqual(Code(most).ranks[0], 1398)
        high = [("push", 1)] * 699 + [("add",)] * 698 + [("save", "x"), ("loop",), BACK]
        self.assertEqual((len(high), max(Code(high).heights)), (1400, 699))
        self.assertEqual(lines_of(read_code(lines_of(Code(high)))), lines_of(Code(high)))

    def test_any_values(self):
        code = Code([BACK])
        for value in [*strange(), code, [code], [[BACK]], [BACK, None], "back", {0: BACK}]:
            self.assertIs(is_code(value), False)
            self.refused(InvalidCode, [value], Code, value)
            self.assertFalse(code == value and value is not code)
        self.assertTrue(code == Code((BACK,)) and code != Code([("loop",), BACK]))
        rows = [("loop",), BACK]
        other = Code(rows=rows)
        rows.clear()
        self.assertEqual([other.rows, other.heights, other.ranks], [(("loop",), BACK), (0, 0), (0, 0)])
        for value in (other.rows, other.heights, other.ranks):
            self.assertIs(type(value), tuple)

    def test_against_other_heights_and_ranks(self):
        rng = random.Random(103)
        kinds = {True: 0, False: 0}
        for _ in range(4000):
            rows = some_rows(rng, rng.randint(1, 9))
            want = told(rows)
            kinds[want is not None] += 1
            self.assertIs(is_code(rows), want is not None, rows)
            if want is not None:
                code = Code(rows)
                self.assertEqual((code.heights, code.ranks), want)
                self.assertEqual(read_code(lines_of(code)), code)
        self.assertGreater(min(kinds.values()), 500)


class Lines(Case):
    def test_lines(self):
        rows = [("push", 7), ("load", "x"), ("take",), ("unless", 5), ("go", 6), ("loop",), ("draw", "x", ((1, 2), (0, 12))),
                ("spin", 2, "x", ((1, 1), (2, 2), (0, 3))), ("choose", 0, (("a", 9), ("b", 10))), ("call", "toss"), BACK]
        lines = ["push 7", "load x", "take", "unless 5", "go 6", "loop", "draw x 1 by 2 0 by 12", "spin 2 x 1 by 1 2 by 2 0 by 3",
                 "choose 0 a 9 b 10", "call toss", "back"]
        self.assertEqual(lines_of(Code(rows)), lines)
        self.assertEqual(lines_of(code=Code(rows)), lines)
        self.assertEqual(read_code(lines).rows, tuple(rows))
        self.assertEqual(read_code(lines=tuple(lines)).rows, tuple(rows))
        lines_of(Code(rows)).clear()
        for at, line in enumerate(lines):
            for wrong in [line + " ", " " + line, line.upper(), line.replace(" ", "  "), line + " 0", line + "\n", "",
                          line.replace("7", "07"), line.replace("12", "012"), line.replace("by", "of"), line.replace("7", "+7"),
                          line.replace("2", "\u0662"), line.replace(" by 2", ""), line.replace("7", "7 ")]:
                if wrong != line:
                    given = [*lines[:at], wrong, *lines[at + 1:]]
                    self.refused(InvalidLines, [given], read_code, given)
        for wrong in ["push -1", "push 100", "push " + "9" * 3000, "go", "draw x", "draw x 1", "draw x 1 by", "spin", "choose", "choose 0",
                      "choose 0 a", "choose 0 a 1 b", "choose a 1 b 1", "call", "call 7", "push x", "load 7", "draw x 1 by 1 1 by 1",
                      "draw x 0 by 1 1 by 1 2 by 1 3 by 1", "spin 0 x 0 by 1 1 by 1", "spin p1 x 0 by 1 1 by 1"]:
            given = [wrong, "back"]
            self.refused(InvalidLines, [given], read_code, given)

    def test_any_values(self):
        for value in [*strange(), ["back", "back"], ["loop"], "back", ["back", None], [["back"]], Code([BACK]), {"back": 1}, [BACK],
                      ["loop"] * 1400 + ["back"]]:
            self.refused(InvalidLines, [value], read_code, value)
        self.assertEqual(len(read_code(["loop"] * 1399 + ["back"]).rows), 1400)
        for value in [*strange(), [BACK], (BACK,)]:
            self.refused(InvalidCode, [value], lines_of, value)


class Running(Case):
    def setUp(self):
        self.space = Space([("x", 3), ("y", 2)])

    def test_signs(self):
        for word, want in [("add", lambda a, b: a + b), ("take", lambda a, b: a - b), ("times", lambda a, b: a * b),
                           ("less", lambda a, b: int(a < b)), ("same", lambda a, b: int(a == b)),
                           ("and", lambda a, b: int(a != 0 and b != 0)), ("or", lambda a, b: int(a != 0 or b != 0))]:
            for a in (0, 1, 2, 5):
                for b in (0, 1, 4, 5):
                    code = Code([("push", a), ("push", b), (word,), ("save", "x"), ("load", "x"), ("not",), ("save", "y"), BACK])
                    x = want(a, b) % 3
                    self.assertEqual(settled(self.space, code, 0, 5), (7, 2 * x + int(x == 0)))

    def test_jumps(self):
        code = Code([("load", "x"), ("unless", 5), ("push", 2), ("save", "x"), ("go", 7), ("push", 1), ("save", "y"), BACK])
        self.assertEqual([settled(self.space, code, 0, store) for store in range(6)],
                         [(7, 1), (7, 1), (7, 4), (7, 5), (7, 4), (7, 5)])
        for at in (2, 4, 5, 7):
            self.assertEqual(settled(self.space, code, at, 2)[0], 7)
        for at in (1, 3, 6):
            self.refused(InvalidRow, [at], settled, self.space, code, at, 2)

    def test_questions_and_answers(self):
        rows = [("loop",), ("draw", "x", ((1, 2), (0, 3))), ("spin", 3, "y", ((1, 1), (0, 1))),
                ("choose", 2, (("a", 5), ("b", 4))), ("call", "toss"), BACK]
        code = Code(rows)
        self.assertEqual([question(code, at) for at in range(6)],
                         [("loop",), ("turn", 5), ("spin", 3, 2), ("choose", 2, ("a", "b")), ("call", "toss"), BACK])
        self.assertEqual(answered(self.space, code, 0, 5, None), (1, 5))
        self.assertEqual([answered(self.space, code, 1, 5, part) for part in range(5)], [(2, 3)] * 2 + [(2, 1)] * 3)
        self.assertEqual([answered(self.space, code, 2, 4, part) for part in range(2)], [(3, 5), (3, 4)])
        self.assertEqual([answered(self.space, code, 3, 4, label) for label in "ab"], [(5, 4), (4, 4)])
        self.assertEqual([answered(self.space, code, 4, 0, store) for store in range(6)], [(5, store) for store in range(6)])
        right = [[None], range(5), range(2), ["a", "b"], range(6), []]
        for at in range(6):
            for value in [*strange(), 0, 1, 2, 5, 6, "a", "b", "c", 1.5, Ratio(1), ("a",)]:
                if isinstance(value, bool) or value not in list(right[at]) or isinstance(value, Ratio):
                    self.refused(InvalidAnswer, [value], answered, self.space, code, at, 0, value)

    def test_order(self):
        code = Code([("push", 1), ("save", "x"), BACK])
        self.refused(InvalidNames, [1], settled, 1, 2, 3, 4)
        self.refused(InvalidCode, [2], settled, self.space, 2, 3, 4)
        self.refused(InvalidRow, [3], settled, self.space, code, 3, 6)
        self.refused(InvalidStore, [6], settled, self.space, code, 0, 6)
        self.refused(InvalidNames, [1], answered, 1, 2, 3, 4, 5)
        self.refused(InvalidCode, [2], answered, self.space, 2, 3, 4, 5)
        self.refused(InvalidRow, [0], answered, self.space, code, 0, 6, 5)
        self.refused(InvalidStore, [6], answered, self.space, code, 2, 6, 5)
        self.refused(InvalidAnswer, [None], answered, self.space, code, 2, 5, None)
        call = Code([("call", "toss"), BACK])
        self.refused(InvalidStore, [7], answered, self.space, call, 0, 7, 1)
        self.refused(InvalidCode, [2], question, 2, 3)
        self.refused(InvalidRow, [0], question, code, 0)
        for value in [*strange(), 3, Ratio(2), "2"]:
            self.refused(InvalidRow, [value], question, code, value)
            self.refused(InvalidRow, [value], settled, self.space, code, value, 0)
            self.refused(InvalidRow, [value], answered, self.space, code, value, 0, None)
        for value in [*strange(), 6, Ratio(2), "2"]:
            self.refused(InvalidStore, [value], settled, self.space, code, 0, value)
            self.refused(InvalidStore, [value], settled, self.space, code, 2, value)
            self.refused(InvalidStore, [value], answered, self.space, code, 2, value, None)
        for value in strange():
            self.refused(InvalidCode, [value], settled, self.space, value, 0, 0)
            self.refused(InvalidCode, [value], question, value, 0)
            if not isinstance(value, Space):
                self.refused(InvalidNames, [value], settled, value, code, 0, 0)

    def test_codes_over_a_space(self):
        for row in [("load", "z"), ("save", "z"), ("draw", "z", PAIRS), ("spin", 1, "z", PAIRS), ("draw", "y", ((0, 1), (2, 1))),
                    ("spin", 1, "x", ((0, 1), (3, 1)))]:
            around = {"load": [row, ("save", "x")], "save": [("push", 1), row]}.get(row[0], [row])
            code = Code([("loop",), *around, BACK])
            self.refused(InvalidCode, [code], settled, self.space, code, 9, 9)
            self.refused(InvalidCode, [code], answered, self.space, code, 0, 0, None)
            self.assertEqual(question(code, 0), ("loop",))

    def test_small_and_great_integers(self):
        rows = [("push", 0)] + [("push", 99), ("take",)] * 3 + [("save", "x"), BACK]
        self.assertEqual(settled(self.space, Code(rows), 0, 1), (8, (-297 % 3) * 2 + 1))
        rows = [("push", 98)] + [("push", 98), ("times",)] * 600 + [("save", "x"), BACK]
        self.assertEqual(settled(self.space, Code(rows), 0, 0), (1202, 2 * (98 ** 601 % 3)))
        self.assertEqual(settled(space=self.space, code=Code([BACK]), at=0, store=3), (0, 3))
        self.assertEqual(answered(space=self.space, code=Code([("loop",), BACK]), at=0, store=3, answer=None), (1, 3))


if __name__ == "__main__":
    unittest.main()

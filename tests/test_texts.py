import random
import unittest

from evenpatch.errors import InvalidSystem, InvalidText, NoSystem
from evenpatch.texts import is_tree, read_system, write_system
from evenpatch.writer import system_lines
from helpers import Case, strange
from systems import Maker, some_system
from viable import pieces_of, place_of

HEAD = "parties 2 name x 3 unit game { "
PIECES = """parties name unit set draw spin choose if while call and by else net not or yes p1 p2 p3 p4 x toss game
abcdefgh abcdefghi 0 1 2 3 5 6 7 9 12 13 99 100 00 01 x2 2x { } [ ] ( ) + - * < = > ; X _ . /""".split() + ["\t"]


def nested(many, start, inner, end):
    return start * many + inner + end * many


class Reading(Case):
    def check(self, text):
        """Compares with the second reader, and with a text that goes on from there; gives the place, None for a text."""
        place, whole = place_of(text)
        self.assertTrue(is_tree(read_system(" ".join(whole))))
        if place is None:
            found = read_system(text)
            self.assertTrue(is_tree(found))
            self.assertEqual(read_system(write_system(found)), found)
        else:
            self.refused(NoSystem, place, read_system, text)
        return place

    def test_by_hand(self):
        toss = "unit toss { spin p1 x 0 by 1 1 by 1 choose p2 stay { } or silent { set x = 2 } } "
        system = read_system("parties 2 name x 3 " + toss + "unit game { while [x = 0] and [yes] { call toss } }")
        spin = ("spin", 1, "x", ((0, 1), (1, 1)))
        choose = ("choose", 2, (("stay", ()), ("silent", (("set", "x", ("num", 2)),))))
        loop = ("while", ("and", ("same", ("name", "x"), ("num", 0)), ("yes",)), (("call", "toss"),))
        self.assertEqual(system, (2, (("x", 3),), (("toss", (spin, choose)), ("game", (loop,)))))
        text = "parties 3 name a 2 name b 6 unit u { draw a 0 by 1 5 by 12 2 by 3 if not [1 < a] { } else { call v } }"
        draw = ("draw", "a", ((0, 1), (5, 12), (2, 3)))
        branch = ("if", ("not", ("less", ("num", 1), ("name", "a"))), (), (("call", "v"),))
        self.assertEqual(read_system(text=text), (3, (("a", 2), ("b", 6)), (("u", (draw, branch)),)))

    def test_trees_by_hand(self):
        x, y = ("name", "x"), ("name", "y")
        for text, tree in (("x", x), ("7", ("num", 7)), ("x + y", ("+", x, y)), ("x - (x * y)", ("-", x, ("*", x, y))),
                           ("(x - y) * (y - 99)", ("*", ("-", x, y), ("-", y, ("num", 99))))):
            self.assertEqual(read_system(HEAD + "set x = " + text + "}")[2][0][1], (("set", "x", tree),))
        for text, tree in (("yes", ("yes",)), ("x < y", ("less", x, y)), ("x + y = (x * y) - x",
                           ("same", ("+", x, y), ("-", ("*", x, y), x))),
                           ("[not [yes]] or [[yes] and [x = y]]",
                            ("or", ("not", ("yes",)), ("and", ("yes",), ("same", x, y))))):
            self.assertEqual(read_system(HEAD + "while " + text + "{}}")[2][0][1], (("while", tree, ()),))

    def test_blanks_and_lines(self):
        system = read_system(HEAD + "set x = (x + 1) * 2 }")
        self.assertEqual(read_system("parties 2 name x 3 unit game{set x=(x+1)*2}"), system)
        self.assertEqual(read_system("\n\n parties\n2 name   x\n3 unit game{set x\n=(x+1)*2}\n"), system)
        self.refused(NoSystem, [1, 9], read_system, "parties 2name x 3 unit game { }")
        self.refused(NoSystem, [1, 8], read_system, "parties\t2 name x 3 unit game { }")
        self.refused(NoSystem, [2, 1], read_system, "parties 2 name x 3\nX unit game { }")

    def test_no_strings(self):
        for value in strange():
            if not isinstance(value, str):
                self.refused(InvalidText, [value], read_system, value)
            else:
                with self.assertRaises(NoSystem):
                    read_system(value)

    def test_ends_too_early(self):
        for text, place in (("", (1, 1)), ("\n", (2, 1)), ("  ", (1, 3)), (" \n ", (2, 2)), ("parties", (1, 8)),
                            ("parties 2\nname x 3\n", (3, 1)), (HEAD, (1, len(HEAD) + 1)), (HEAD + "\n\n  ", (3, 3)),
                            (HEAD + "set x = 1", (1, len(HEAD) + 10)), (HEAD + "} unit", (1, len(HEAD) + 7))):
            self.refused(NoSystem, place, read_system, text)
            self.assertEqual(self.check(text), place)

    def test_behind_the_end(self):
        whole = HEAD + "}"
        for more in ("}", " x", "\nname", "\n unit unit", " ;"):
            self.assertIsNotNone(self.check(whole + more))
        self.refused(NoSystem, [1, len(whole) + 2], read_system, whole + " x")
        self.refused(NoSystem, [2, 7], read_system, whole + "\n unit unit")
        units = whole + " unit a { }" * 3
        self.assertIsNone(self.check(units + " \n "))
        self.refused(NoSystem, [1, len(units) + 2], read_system, units + " unit b { }")

    def test_head(self):
        for text, column in (("parties 4", 9), ("parties 1", 9), ("parties 02", 9), ("partie", 1), ("name", 1),
                             ("parties 2 unit", 11), ("parties 2 name set", 16), ("parties 2 name x 1", 18),
                             ("parties 2 name x 7", 18), ("parties 2 name x 2 name y 3 name", 29),
                             ("parties 2 name abcdefghi", 16), ("parties 2 name x2 3", 16), ("parties 2 name X 3", 16),
                             ("parties 2 name x 2 unit by", 25), ("parties 2 name x 2 {", 20)):
            self.refused(NoSystem, [1, column], read_system, text)
            self.assertEqual(self.check(text), (1, column))

    def behind_head(self, text, column):
        """The place is the column behind the head, counted from 0."""
        self.refused(NoSystem, [1, len(HEAD) + 1 + column], read_system, HEAD + text)
        self.assertEqual(self.check(HEAD + text), (1, len(HEAD) + 1 + column))

    def test_statements(self):
        for text, column in (("spin p3", 5), ("spin net", 5), ("choose p3", 7), ("choose p", 7), ("choose net a { } }", 17),
                             ("choose p1 a { } or a { } or b { } or c", 34), ("choose p1 or", 10), ("call if", 5),
                             ("draw x 6", 7), ("draw x 0 by 0", 12), ("draw x 0 by 13", 12), ("draw x 0 by 1 }", 14),
                             ("draw x 0 by 1 1 by 1 6", 21), ("draw x 0 by 1 1 by 1 2 by 1 3", 28), ("draw x 00", 7),
                             ("draw x 0 by 1 1 by 1 x", 21), ("if yes { } }", 11), ("if yes { } else else", 16),
                             ("while yes yes", 10), ("set x 3", 6), ("set x = 100", 8), ("set x = 01", 8),
                             ("set x = yes", 8), ("set x = ( x )", 12), ("set x = x + y + z", 14), ("set x = }", 8),
                             ("set x = (x + y) }", 16), ("set x = (x + y)) }", 15), ("set x = x y", 10),
                             ("while x {", 8), ("while x < y < z", 12), ("while (x = y", 9), ("while [x + y] ", 12),
                             ("while [yes] { }", 12), ("while not yes", 10), ("while yes and", 10),
                             ("while [yes] and yes", 16), ("while x - y + z", 12), ("p1", 0), ("else", 0), ("1", 0)):
            self.behind_head(text, column)

    def test_numbers_of_statements(self):
        row = "set x = 1 "
        self.assertIsNone(self.check(HEAD + row * 20 + "}"))
        self.behind_head(row * 20 + "call", 200)
        self.behind_head("if yes { " + row * 9 + "} else { " + row * 10 + "choose", 9 + 90 + 9 + 100)
        two = HEAD + row * 20 + "} unit b { " + row * 20 + "} unit c { "
        self.assertIsNone(self.check(two + "}"))
        self.refused(NoSystem, [1, len(two) + 1], read_system, two + row)
        self.assertEqual(self.check(two + "while"), (1, len(two) + 1))

    def test_whiles(self):
        loop = "while yes { "
        self.assertIsNone(self.check(HEAD + loop * 3 + "} " * 4))
        self.behind_head(loop * 3 + "while", 36)
        self.behind_head("while yes { if yes { while yes { choose p1 a { while yes { if yes { } else { while", 77)
        self.assertIsNone(self.check(HEAD + loop * 3 + "} " * 3 + loop * 3 + "} " * 4))

    def test_depths(self):
        self.behind_head("set x = (((((x", 12)
        self.behind_head("set x = " + "(" * 30000, 12)
        self.behind_head("set x = x + ((((( x", 16)
        self.behind_head("set x = ((((x + 1) + (x + (", 26)
        self.assertIsNone(self.check(HEAD + "set x = ((((x + 1) + 1) + 1) + 1) + 1 }"))
        self.assertIsNone(self.check(HEAD + "set x = x + (1 + (1 + (1 + (1 + 1)))) }"))
        self.behind_head("while ((((x", 9)
        self.behind_head("while x < ((((x", 13)
        self.assertIsNone(self.check(HEAD + "while (((x + 1) + 1) + 1) + 1 < 1 { } }"))
        self.behind_head("while " + "not [" * 6, 31)
        self.behind_head("while " + "not [" * 5 + "x", 31)
        self.behind_head("while " + "not [" * 5 + "[", 31)
        self.behind_head("while " + "not [" * 4 + "x +", 28)
        self.behind_head("while " + "not [" * 4 + "x < (", 30)
        self.behind_head("while " + "[" * 6, 11)
        self.assertIsNone(self.check(HEAD + "while " + nested(5, "not [", "yes", "]") + "{ } }"))
        self.assertIsNone(self.check(HEAD + "while " + nested(4, "not [", "x < 1", "]") + "{ } }"))
        self.assertIsNone(self.check(HEAD + "while " + nested(3, "not [", "x + 1 < 1", "]") + "{ } }"))

    def test_long_strings(self):
        for text, place in (("a" * 40000, (1, 1)), ("9" * 40000, (1, 1)), ("parties " + "9" * 39000, (1, 9)),
                            (" " * 40000, (1, 40001)), ("\n" * 40000, (40001, 1)), ("(" * 40000, (1, 1)),
                            ("\n" * 39999 + "x", (40000, 1)), (HEAD + "set x = " + "7" * 39000, (1, len(HEAD) + 9))):
            self.refused(NoSystem, place, read_system, text)
        self.behind_head("if yes { " * 4000, 9 * 20)
        self.behind_head("choose p1 a { " * 2500, 14 * 20)
        self.behind_head("while " + "[" * 30000, 11)
        self.behind_head("while " + "not[" * 9000, 26)
        self.assertIsNotNone(read_system(HEAD.replace(" ", " \n" * 900) + "}" + " " * 9000))

    def test_one_piece_otherwise(self):
        rng = random.Random(51)
        kinds = {"text": 0, "end": 0, "piece": 0}
        for _ in range(1200):
            text = write_system(some_system(rng))
            pieces = [piece for piece, _, _ in pieces_of(text)[0]]
            at = rng.randrange(len(pieces))
            piece = rng.choice(PIECES)
            changed = rng.choice([pieces[:at] + pieces[at + 1:], pieces[:at] + [piece] + pieces[at:], pieces[:at],
                                  pieces[:at] + [piece] + pieces[at + 1:]])
            changed = "".join(one + rng.choice([" ", "\n", "  ", " \n "]) for one in changed)
            place = self.check(changed)
            end = pieces_of(changed)[1:]
            kinds["text" if place is None else "end" if place == end else "piece"] += 1
        self.assertGreater(min(kinds.values()), 10, kinds)

    def test_bounds_that_are_broken(self):
        rng = random.Random(54)
        broken = 0
        for _ in range(300):
            units = []
            for word in ("u", "v", "w"):
                maker = Maker(rng, rng.randint(2, 3), (("x", 2),), ["u"], rng.choice([2, 19, 23, 30]), False)
                maker.whiles = rng.choice([3, 3, 5])
                maker.deepest = rng.choice([4, 6, 7, 8])
                units.append((word, maker.body(0, 0)))
            system = (rng.randint(2, 3), (("x", 2),), tuple(units))
            place = self.check("\n".join(system_lines(system)))
            self.assertEqual(place is None, is_tree(system))
            broken += place is not None
        self.assertTrue(100 < broken < 280, broken)

    def test_pieces_at_random(self):
        rng = random.Random(52)
        for _ in range(1500):
            text = rng.choice([HEAD, HEAD + "while ", HEAD + "set x = ", HEAD + "choose p1 a { } or b { ", HEAD + "if "])
            few = rng.choice([PIECES, ["(", ")", "x", "+", "1"], ["[", "]", "yes", "not", "and", "x", "<"]])
            self.check(text + " ".join(rng.choice(few) for _ in range(rng.randint(1, 12))))


class Writing(Case):
    def test_by_hand(self):
        text = write_system(read_system("parties 3 name a 2 unit b{choose net u{}or v{set a=(a+1)*2}}"))
        self.assertEqual(text, "parties 3\nname a 2\nunit b {\n  choose net u {\n  } or v {\n    set a = (a + 1) * 2\n  }\n}")

    def test_all_statements(self):
        lines = ["parties 3", "name x 2", "name y 3", "unit a {", "}", "unit b {", "  draw x 0 by 1 1 by 12",
                 "  spin p3 y 2 by 1 1 by 2 0 by 3", "  choose p1 u {", "    call a", "  } or v {", "  } or w {",
                 "    while [not [x = 1]] or [x - (1 * y) < 2 + y] {", "      set x = 10 - (x * (y + 2))", "    }", "  }",
                 "  if yes {", "    if not [[yes] and [x = 0]] {", "    } else {", "      call a", "    }", "  } else {",
                 "  }", "}"]
        text = "\n".join(lines)
        self.assertEqual(write_system(system=read_system(text)), text)
        self.assertEqual(write_system(read_system(text.replace("\n", " "))), text)

    def test_what_is_written_is_read_as_the_same(self):
        rng = random.Random(53)
        for at in range(500):
            system = some_system(rng, at % 3 == 0)
            text = write_system(system)
            self.assertEqual(read_system(text), system)
            self.assertEqual(write_system(read_system(text)), text)
            self.check_layout(text)

    def check_layout(self, text):
        depth = 0
        for line in text.split("\n"):
            bare = line.lstrip(" ")
            if bare.startswith("}"):
                depth -= 1
            self.assertEqual(len(line) - len(bare), 2 * depth)
            for wrong in ("  ", "( ", " )", "[ ", " ]"):
                self.assertNotIn(wrong, bare)
            self.assertEqual(bare, bare.rstrip(" "))
            if bare.endswith("{"):
                depth += 1
        self.assertEqual(depth, 0)

    def test_no_systems(self):
        system = (2, (("x", 2),), (("u", ()),))
        for value in [*strange(), list(system), (1, *system[1:]), (2, system[1], ()), (2, [("x", 2)], system[2])]:
            self.refused(InvalidSystem, [value], write_system, value)


if __name__ == "__main__":
    unittest.main()

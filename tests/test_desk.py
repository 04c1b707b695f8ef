"""Tests of evenpatch.desk."""

import random
import unittest

from brute import quiet
from helpers import Case, fraction, strange
from second import small_system
from test_pictures import some_deed, str_of, told_by
from test_registry import some_body, some_sides, tell

from evenpatch.checks import unit_names
from evenpatch.desk import Desk, read_desk
from evenpatch.errors import (InvalidLines, InvalidName, InvalidPromised, InvalidSystem, InvalidText, NoSystem, NotFair,
                              NothingToUndo, NoThing, NotLet, PactError, TooMany)
from evenpatch.house import House
from evenpatch.pictures import go_on, picture
from evenpatch.ratios import Ratio
from evenpatch.texts import read_system, write_system

RULES = "parties 2 name x 2 unit toss { choose p1 low { set x = 0 } or high { set x = 1 } } unit game { call toss }"
FAIR = "parties 2 name x 2 unit toss { draw x 0 by 1 1 by 1 } unit game { call toss }"
OTHER = "parties 2 name x 2 unit toss { draw x 0 by 1 1 by 1 } unit game { call toss if x = 0 { } else { } }"


def plain_lines(desk, undone):
    """The lines of a desk; `undone` has for each name the rollouts that can be undone, as tuples (unit, number)."""
    found = []
    for name in desk.names():
        found.append(f"house {name}")
        found += picture(desk.house_of(name))
        found += ["undo " + " ".join(f"{unit} {number}" for unit, number in rollout) for rollout in undone[name]]
    return found


def told_of(desk):
    return [desk.names(), [str_of(told_by(desk.house_of(name))) for name in desk.names()], desk.lines()]


class Names(Case):
    def desk(self):
        desk = Desk()
        desk.lay("club", RULES, [(2,)])
        return desk

    def test_at_first(self):
        desk = Desk()
        self.assertEqual([desk.names(), len(desk), "club" in desk, desk.lines(), desk == Desk(), desk == 0],
                         [[], 0, False, [], True, False])
        self.assertEqual(read_desk([]), desk)
        self.assertEqual(read_desk(lines=()).names(), [])

    def test_names(self):
        desk = self.desk()
        self.assertIsNone(desk.lay(name="a", text=RULES, promised=[(), (1,)]))
        self.assertEqual([desk.names(), len(desk), "a" in desk, "b" in desk], [["a", "club"], 2, True, False])
        house = desk.house_of(name="club")
        self.assertIsInstance(house, House)
        self.assertIs(desk.house_of("club"), house)
        self.assertEqual([house.sessions(), house.registry.promised(), house.registry.published()],
                         [[], [(2,)], read_system(RULES)])
        self.assertIsNone(desk.rename(name="club", new="bar"))
        self.assertIs(desk.house_of("bar"), house)
        self.assertEqual(desk.names(), ["a", "bar"])
        self.assertIsNone(desk.drop(name="a"))
        self.assertEqual([desk.names(), len(desk)], [["bar"], 1])
        desk.names().clear()
        self.assertEqual(desk.names(), ["bar"])
        for value in [*strange(), "a", "club", None, ("bar",), ["bar"], 0]:
            self.assertIs(value in desk, False)
        desk.lay("club", RULES, [(2,)])
        self.assertIsNot(desk.house_of("club"), house)

    def test_errors_of_names(self):
        desk = self.desk()
        ahead = told_of(desk)
        for wrong in [*strange(), "x", "bar", ["club"], ("club",), "Club", "club "]:
            for call, more in [(desk.house_of, ()), (desk.drop, ()), (desk.rename, (None,)), (desk.twin, (None,)),
                               (desk.roll_out, (None,)), (desk.undo, ())]:
                self.refused(NoThing, [wrong], call, wrong, *more)
        for wrong in [*strange(), "club", "spin", "abcdefghi", "Bar", "b1", ["bar"], ""]:
            self.refused(InvalidName, [wrong], desk.lay, wrong, None, None)
            self.refused(InvalidName, [wrong], desk.rename, "club", wrong)
            self.refused(InvalidName, [wrong], desk.twin, "club", wrong)
        self.refused(InvalidText, [None], desk.lay, "bar", None, None)
        self.refused(NoSystem, [1, 1], desk.lay, "bar", "", None)
        self.refused(NotFair, ["twice", None, "x"], desk.lay, "bar", "parties 2 name x 2 unit x { }", None)
        for wrong in [*strange(), [(1,), ()], [(3,)]]:
            if wrong != ((),):
                self.refused(InvalidPromised, [wrong], desk.lay, "bar", RULES, wrong)
        self.assertEqual(told_of(desk), ahead)

    def test_eight_houses_and_the_ninth(self):
        desk = Desk()
        for word in "abcdefgh":
            desk.lay(word, RULES, [(2,)])
        ahead = told_of(desk)
        self.refused(TooMany, [9], desk.lay, "i", RULES, [(2,)])
        self.refused(TooMany, [9], desk.twin, "a", "i")
        self.refused(InvalidName, ["a"], desk.twin, "a", "a")
        self.refused(InvalidText, [1], desk.lay, "i", 1, [(2,)])
        given = []
        self.refused(InvalidPromised, [given], desk.lay, "i", RULES, given)
        self.assertEqual(told_of(desk), ahead)
        self.assertEqual(read_desk(desk.lines()), desk)
        desk.rename("a", "i")
        desk.drop("b")
        desk.twin("i", "j")
        self.assertEqual(len(desk), 8)
        many = [*desk.lines(), "house k", *picture(desk.house_of("i"))]
        self.refused(InvalidLines, [many], read_desk, many)


class Rollouts(Case):
    def desk(self):
        desk = Desk()
        desk.lay("club", RULES, [(2,)])
        return desk

    def test_all_or_none(self):
        desk = self.desk()
        house = desk.house_of("club")
        registry = house.registry
        self.assertEqual(desk.roll_out(name="club", text=OTHER), [("toss", 1), ("game", 1)])
        self.assertEqual([registry.standing("toss"), registry.standing("game")], [1, 1])
        self.assertEqual(desk.roll_out("club", OTHER), [])
        self.assertIsNone(desk.undo(name="club"))
        self.assertEqual([registry.standing("toss"), registry.standing("game")], [0, 0])
        self.refused(NothingToUndo, [], desk.undo, "club")
        bad = "parties 2 name x 2 unit toss { draw x 0 by 1 1 by 1 } unit game { call toss while yes { } }"
        ahead = told_of(desk)
        told = tell(desk.roll_out, "club", bad)
        self.assertIs(told[0], NotLet)
        self.assertEqual(told, tell(registry.exchange, "game", read_system(bad)[2][1][1]))
        self.assertEqual(told_of(desk), ahead)

    def test_errors(self):
        desk = self.desk()
        ahead = told_of(desk)
        for wrong in [one for one in strange() if not isinstance(one, str)]:
            self.refused(InvalidText, [wrong], desk.roll_out, "club", wrong)
        self.refused(NoSystem, [1, 1], desk.roll_out, "club", "")
        self.refused(NotFair, ["twice", None, "x"], desk.roll_out, "club", "parties 3 name x 2 unit x { }")
        for wrong in [RULES.replace("parties 2", "parties 3"), RULES.replace("x 2", "x 3"), RULES.replace("x", "y"),
                      RULES.replace("toss", "coin"), RULES + " unit last { }", RULES[:RULES.index(" unit game")],
                      "parties 2 name x 2 unit game { } unit toss { call game }", RULES.replace("name x 2", "name x 2 name y 2")]:
            self.refused_system(desk, wrong)
        self.assertEqual(told_of(desk), ahead)

    def refused_system(self, desk, wrong):
        with self.assertRaises(InvalidSystem) as caught:
            desk.roll_out("club", wrong)
        self.assertEqual(caught.exception.given, read_system(wrong))

    def test_a_body_that_stands_is_not_exchanged(self):
        """However the edition that stands was taken: at a price, in a bundle, or without."""
        desk = self.desk()
        registry = desk.house_of("club").registry
        flat = "parties 2 name x 2 unit toss { while yes { } } unit game { call toss }"
        self.assertIs(tell(desk.roll_out, "club", flat)[0], NotLet)
        self.assertEqual(registry.exchange_at("toss", read_system(flat)[2][0][1], 1), 1)
        self.assertEqual(desk.roll_out("club", flat), [])
        self.refused(NothingToUndo, [], desk.undo, "club")
        self.assertEqual(desk.roll_out("club", RULES), [("toss", 0)])
        self.assertIs(tell(desk.roll_out, "club", flat)[0], NotLet)
        desk.undo("club")
        self.assertEqual(registry.standing("toss"), 1)
        fair = read_system(FAIR)[2]
        self.assertEqual(registry.exchange_all({"toss": fair[0][1], "game": fair[1][1]}), (("toss", 2), ("game", 1)))
        self.assertEqual(registry.standing("toss"), 1)
        self.assertEqual(desk.roll_out("club", FAIR), [("toss", 3)])
        self.assertEqual([registry.standing("toss"), registry.standing("game")], [3, 1])

    def test_undo_brings_back_what_stood_ahead(self):
        """Whatever stood since; an edition of a door, too."""
        desk = self.desk()
        registry = desk.house_of("club").registry
        fair = read_system(FAIR)[2]
        registry.exchange_all({"toss": fair[0][1]})
        self.assertEqual(desk.roll_out("club", RULES), [("toss", 0)])
        self.assertEqual(desk.roll_out("club", FAIR), [("toss", 2)])
        registry.stand("toss", 0)
        desk.undo("club")
        self.assertEqual(registry.standing("toss"), 0)
        desk.undo("club")
        self.assertEqual(registry.standing("toss"), 1)
        self.refused(NothingToUndo, [], desk.undo, "club")

    def test_nine_rollouts(self):
        desk = self.desk()
        texts = [FAIR, RULES]
        for at in range(9):
            desk.roll_out("club", texts[at % 2])
        self.assertEqual(desk.lines()[-8:], [f"undo toss {1 - at % 2}" for at in range(8)])
        self.assertEqual(read_desk(desk.lines()), desk)
        nine = [*desk.lines(), "undo toss 0"]
        self.refused(InvalidLines, [nine], read_desk, nine)
        for at in range(8):
            desk.undo("club")
        self.refused(NothingToUndo, [], desk.undo, "club")
        self.assertEqual(desk.house_of("club").registry.standing("toss"), 1)

    def test_thirteen_editions(self):
        """What exchange raises for the first unit that it refuses, and nothing is exchanged."""
        desk = self.desk()
        registry = desk.house_of("club").registry
        for by in range(1, 12):
            registry.exchange("toss", (("draw", "x", ((0, 1), (1, by))),))
        ahead = told_of(desk)
        one = "parties 2 name x 2 unit toss { draw x 0 by 5 1 by 2 } unit game { call toss if x = 0 { } else { } }"
        self.refused(TooMany, [13], desk.roll_out, "club", one)
        self.assertEqual(told_of(desk), ahead)
        self.assertEqual(desk.roll_out("club", one.replace("0 by 5 1 by 2", "0 by 1 1 by 4")), [("toss", 4), ("game", 1)])

    def test_they_go_with_their_house(self):
        desk = self.desk()
        desk.house_of("club").begin(1)
        desk.roll_out("club", FAIR)
        desk.rename("club", "bar")
        desk.twin("bar", "den")
        self.assertIsNot(desk.house_of("den"), desk.house_of("bar"))
        self.assertEqual(picture(desk.house_of("den")), picture(desk.house_of("bar")))
        desk.undo("bar")
        self.assertEqual([desk.house_of(name).registry.standing("toss") for name in ("bar", "den")], [0, 1])
        self.refused(NothingToUndo, [], desk.undo, "bar")
        desk.undo("den")
        self.assertEqual(desk.house_of("den").registry.standing("toss"), 0)
        desk.drop("den")
        desk.lay("den", RULES, [(2,)])
        self.refused(NothingToUndo, [], desk.undo, "den")


class Desks(Case):
    def test_deeds(self):
        """Many deeds: what is refused changes nothing; the lines are as they are told; desks are read back from them."""
        rng = random.Random(178)
        refused = 0
        for _ in range(40):
            desk = Desk()
            undone = {}
            for _ in range(22):
                ahead = desk.lines()
                if not self.deed(rng, desk, undone):
                    refused += 1
                    self.assertEqual(desk.lines(), ahead)
                self.assertEqual(desk.lines(), plain_lines(desk, undone))
                self.assertEqual(desk.names(), sorted(undone))
                self.assertEqual(len(desk), len(undone))
            lines = desk.lines()
            other = read_desk(lines if rng.random() < 0.5 else tuple(lines))
            self.assertEqual([other.lines(), other == desk], [lines, True])
            self.alike(rng, desk, other, undone)
        self.assertGreater(refused, 50)

    def deed(self, rng, desk, undone):
        """Does something, and tells it in `undone`; whether it was not refused."""
        words = ["a", "b", "c", "den"]
        name, new = rng.choice(words), rng.choice(words)
        kind = rng.randrange(9)
        if kind == 0 or not undone:
            system = small_system(rng, many=rng.randint(1, 2), most=4)
            is_done = tell(desk.lay, name, write_system(system), some_sides(rng, system[0])) is None
            if is_done:
                undone[name] = []
            return is_done
        if kind == 1 and rng.random() < 0.3:
            is_done = tell(desk.drop, name) is None
            if is_done:
                del undone[name]
            return is_done
        if kind == 2:
            is_done = tell(desk.rename, name, new) is None
            if is_done:
                undone[new] = undone.pop(name)
            return is_done
        if kind == 3:
            is_done = tell(desk.twin, name, new) is None
            if is_done:
                undone[new] = [list(rollout) for rollout in undone[name]]
            return is_done
        if name not in undone:
            self.refused(NoThing, [name], desk.house_of, name)
            return False
        house = desk.house_of(name)
        if kind == 4:
            is_done = tell(desk.undo, name) is None
            self.assertEqual(is_done, len(undone[name]) > 0)
            if is_done:
                for unit, number in undone[name].pop():
                    self.assertEqual(house.registry.standing(unit), number)
            return is_done
        if kind in (5, 6):
            return self.roll(rng, desk, name, undone)
        for _ in range(4):
            some_deed(rng, house.registry.published(), house)
        quiet(house.begin, 0, [Ratio(1, 3)] * len(house.registry.promised()))
        return True

    def roll(self, rng, desk, name, undone):
        registry = desk.house_of(name).registry
        system = registry.published()
        bodies = {unit: rng.choice([one for _, one in registry.editions(unit)]) for unit in unit_names(system)}
        if rng.random() < 0.6:
            unit = rng.choice(unit_names(system))
            bodies[unit] = some_body(rng, system, unit)
        wanted = (*system[:2], tuple(bodies.items()))
        stood = {unit: registry.standing(unit) for unit in bodies}
        changes = [unit for unit in bodies if bodies[unit] != registry.body_at(unit, stood[unit])]
        try:
            told = desk.roll_out(name, write_system(wanted))
        except PactError as error:
            self.assertEqual({unit: registry.standing(unit) for unit in bodies}, stood)
            first = [one for one in [tell(go_on(picture(desk.house_of(name))).registry.exchange, unit, bodies[unit])
                                     for unit in changes] if isinstance(one, tuple)]
            if not isinstance(error, (NotFair, InvalidSystem)):
                self.assertEqual(str_of(first[0]), str_of((type(error), list(vars(error).values()))))
            return False
        self.assertEqual(told, [(unit, registry.standing(unit)) for unit in changes])
        for unit in bodies:
            self.assertEqual(registry.body_at(unit, registry.standing(unit)), bodies[unit])
        if told:
            undone[name] = [*undone[name], [(unit, stood[unit]) for unit in changes]][-8:]
        return True

    def alike(self, rng, desk, other, undone):
        """Two desks tell alike whatever is done alike, but for payoffs and plans of attacks."""
        copy = {name: [list(one) for one in rollouts] for name, rollouts in undone.items()}
        for _ in range(6):
            seed = rng.random()
            self.assertEqual(self.deed(random.Random(seed), desk, undone), self.deed(random.Random(seed), other, copy))
            self.assertEqual(desk.lines(), other.lines())
        self.assertEqual([desk == other, undone], [True, copy])

    def test_equal(self):
        one, other = Desk(), Desk()
        for desk in (one, other):
            desk.lay("b", RULES, [(2,)])
            desk.lay("a", FAIR, [(), (1,)])
        self.assertTrue(one == other)
        one.house_of("b").begin(0)
        self.assertFalse(one == other)
        other.house_of("b").begin(0)
        self.assertTrue(one == other)
        self.assertIs(one == one.lines(), False)
        self.assertIs(one == one.house_of("a"), False)

    def test_lines(self):
        desk = Desk()
        desk.lay("b", RULES, [(2,)])
        desk.lay("a", RULES, [(2,)])
        desk.roll_out("b", OTHER)
        lines = desk.lines()
        self.assertEqual(lines[-1], "undo toss 0 game 0")
        desk.lines().clear()
        self.assertEqual(desk.lines(), lines)
        for last in ["undo toss 1 game 1", "undo toss 1", "undo game 0", "undo game 1"]:
            self.assertEqual(read_desk([*lines[:-1], last]).lines()[-1], last)
            found = read_desk([*lines[:-1], last])
            found.undo("b")
            for unit, number in zip(last.split()[1::2], last.split()[2::2]):
                self.assertEqual(found.house_of("b").registry.standing(unit), int(number))
        for last in ["undo", "undo ", "undo toss", "undo toss 0 game", "undo game 0 toss 0", "undo toss 0 toss 1", "undo toss 2",
                     "undo toss 00", "undo toss -1", "undo toss 0  game 0", "undo toss 0 game 0 ", " undo toss 0", "undo mid 0",
                     "undo 0 toss", "undotoss 0", "undo toss x", "house a", "house c", "house b", "undo toss 0\n", "redo toss 0"]:
            value = [*lines[:-1], last]
            self.refused(InvalidLines, [value], read_desk, value)
        at = lines.index("house b")
        for value in [[*lines[at:], *lines[:at]], lines[1:], [*lines[:at], "house a", *lines[at + 1:]], [*lines[:at], *lines[at + 1:]],
                      [*lines[:at], "house  b", *lines[at + 1:]], [*lines[:at], "house B", *lines[at + 1:]], lines[:at + 1],
                      [*lines[:at], "house spin", *lines[at + 1:]], [*lines[:at], "house b ", *lines[at + 1:]], ["house a"],
                      ["", *lines], [*lines, ""], [*lines, None], "\n".join(lines), [lines[-1], *lines[:-1]],
                      [*lines[:at], lines[-1], "stand toss 0", *lines[at:]], *[one for one in strange() if one not in ([], ())]]:
            self.refused(InvalidLines, [value], read_desk, value)
        self.assertEqual(read_desk([*lines[:at], lines[-1].replace("game 0", "game 0"), *lines[at:]]).names(), ["a", "b"])

    def test_inner_editions_cannot_stand_again(self):
        system = "parties 2 name x 2 unit v { } unit w { call v } unit game { call w }"
        desk = Desk()
        desk.lay("a", system, [(1,)])
        desk.house_of("a").registry.exchange_all({"v": (), "w": (("call", "v"),)})
        lines = desk.lines()
        self.assertEqual(read_desk([*lines, "undo w 1"]).lines()[-1], "undo w 1")
        value = [*lines, "undo v 1"]
        self.refused(InvalidLines, [value], read_desk, value)

    def test_sessions_go_on(self):
        """Sessions that a twin or the lines bring go on with equal purses, and each in its own house."""
        desk = Desk()
        desk.lay("club", RULES, [(1,)])
        house = desk.house_of("club")
        house.registry.exchange_at("toss", (("draw", "x", ((0, 1), (1, 1))),), Ratio(1, 2))
        house.begin(0, [Ratio(3, 4)])
        house.step(0)
        desk.twin("club", "den")
        other = read_desk(desk.lines())
        for one in (desk.house_of("den"), other.house_of("club"), other.house_of("den")):
            self.assertEqual([one.asks(0), [fraction(left) for left in one.purses_left(0)]], [("turn", 2), [fraction(Ratio(1, 4))]])
            one.step(0, 1)
            self.assertEqual(house.asks(0), ("turn", 2))


if __name__ == "__main__":
    unittest.main()

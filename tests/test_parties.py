import itertools
import unittest

from evenpatch.errors import InvalidParty, InvalidSide
from evenpatch.parties import is_side, larger, rest, sides
from evenpatch.ratios import Ratio
from helpers import Case, strange


def all_sides(parties):
    return sorted(side for many in range(parties + 1) for side in itertools.combinations(range(1, parties + 1), many))


class Parties(Case):
    def test_is_side(self):
        for side in all_sides(3):
            self.assertIs(is_side(side), True)
        for value in [value for value in strange() if value != ()] + [
                (3, 1), (1, 1), (0,), (4,), (True,), (1, True), [1], [], (Ratio(1),), ("1",), (1, 2, 3, 4), (None,), 1]:
            self.assertIs(is_side(value=value), False)

    def test_sides(self):
        self.assertEqual(sides(2), [(), (1,), (1, 2), (2,)])
        self.assertEqual(sides(parties=3), all_sides(3))
        self.assertEqual(len(sides(3)), 8)
        found = sides(2)
        found.append(None)
        self.assertEqual(len(sides(2)), 4)

    def test_rest_and_larger(self):
        self.assertEqual(rest((2,), 3), (1, 3))
        self.assertEqual(rest(side=(), parties=2), (1, 2))
        self.assertEqual(larger((2,), 3), [(1, 2), (1, 2, 3), (2,), (2, 3)])
        self.assertEqual(larger(side=(1, 2), parties=2), [(1, 2)])
        for parties in (2, 3):
            for side in all_sides(parties):
                other = rest(side, parties)
                self.assertEqual(sorted(side + other), list(range(1, parties + 1)))
                self.assertEqual(rest(other, parties), side)
                found = larger(side, parties)
                self.assertEqual(found, [one for one in all_sides(parties) if set(side) <= set(one)])
                self.assertEqual(len(found), 2 ** (parties - len(side)))
                for one in all_sides(parties):
                    self.assertEqual(one in found, other in larger(rest(one, parties), parties))

    def test_errors_and_their_order(self):
        for parties in [value for value in strange() if type(value) is not int] + [0, 1, 4, -2, Ratio(2), "2"]:
            self.refused(InvalidParty, [parties], sides, parties)
            self.refused(InvalidParty, [parties], rest, "x", parties)
            self.refused(InvalidParty, [parties], larger, (1,), parties)
        for side in [value for value in strange() if value != ()] + [(3,), (1, 3), (2, 1), [1], (0,), (True,), (1, 1)]:
            self.refused(InvalidSide, [side], rest, side, 2)
            self.refused(InvalidSide, [side], larger, side, 2)
        for side in ((4,), [1, 2], (3, 1), (1, 2, 3, 4)):
            self.refused(InvalidSide, [side], rest, side, 3)
            self.refused(InvalidSide, [side], larger, side, 3)
        self.assertEqual(rest((3,), 3), (1, 2))


if __name__ == "__main__":
    unittest.main()

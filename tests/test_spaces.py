import unittest

from evenpatch.errors import InvalidName, InvalidNames, InvalidStore, InvalidValues
from evenpatch.ratios import Ratio
from evenpatch.spaces import Space, is_word
from helpers import Case, strange

RESERVED = "and by call choose draw else if name net not or parties set spin unit while yes".split()
ALL = [[("x", size)] for size in range(2, 7)] + [[("coin", 2), ("seat", 3)], [("b", 3), ("a", 2)], [("u", 2), ("v", 2)]]


class Words(Case):
    def test_words(self):
        for value in ("a", "z", "abcdefgh", "spins", "p", "names", "az"):
            self.assertIs(is_word(value), True)
        for value in [*strange(), *RESERVED, "abcdefghi", "A", "aB", "x2", "a b", " a", "a\n", "a_b", "p1", b"a", ["a"]]:
            self.assertIs(is_word(value=value), False)
        self.assertEqual(len(RESERVED), 17)


class Spaces(Case):
    def test_attributes(self):
        space = Space([("coin", 2), ("seat", 3)])
        self.assertEqual(space.names, (("coin", 2), ("seat", 3)))
        self.assertIs(type(space.names), tuple)
        self.assertEqual((space.never, len(space), space.stores()), (6, 6, [0, 1, 2, 3, 4, 5]))
        self.assertEqual(Space(names=(("x", 4),)).never, 4)

    def test_the_very_tuple(self):
        names = (("x", 2), ("y", 3))
        self.assertIs(Space(names).names, names)
        listed = [("x", 2)]
        space = Space(listed)
        listed.append(("y", 2))
        self.assertEqual((space.names, len(space)), ((("x", 2),), 2))

    def test_wrong_names(self):
        for names in [*strange(), [("x", 1)], [("x", 7)], [("x", 2), ("x", 3)], [("x", 3), ("y", 3)], [("x", 2)] * 3,
                      [("x", 2), ("y", 2), ("z", 2)], [["x", 2]], [("x", True)], [("x", Ratio(2))], [("set", 2)],
                      [("x2", 2)], [("x",)], [("x", 2, 2)], {"x": 2}, ("x", 2), [("x", 2), None], [("x", "2")],
                      [("x", 6), ("y", 2)], [(2, "x")]]:
            self.refused(InvalidNames, [names], Space, names)

    def test_contains(self):
        space = Space([("coin", 2), ("seat", 3)])
        self.assertIs("coin" in space, True)
        self.assertIs("seat" in space, True)
        for value in [*strange(), "x", "coins", ("coin", 2), ["coin"], 0]:
            self.assertIs(value in space, False)

    def test_equal(self):
        for one in ALL:
            for other in ALL:
                self.assertEqual(Space(one) == Space(tuple(other)), one == other)
                self.assertEqual(Space(one) != Space(other), one != other)
        self.assertFalse(Space([("u", 2), ("v", 2)]) == Space([("v", 2), ("u", 2)]))
        for value in [*strange(), (("x", 2),)]:
            self.assertIs(Space([("x", 3)]) == value, False)

    def test_stores(self):
        for names in ALL:
            space = Space(names)
            stores = space.stores()
            self.assertEqual(stores, list(range(len(space))))
            stores.append(0)
            self.assertEqual(space.stores(), list(range(space.never)))
            lists = [list(space.values_of(store).values()) for store in space.stores()]
            self.assertEqual(lists, sorted(lists))
            self.assertEqual(len({tuple(values) for values in lists}), len(space))
            self.assertEqual(lists[0], [0] * len(names))
            for store in space.stores():
                values = space.values_of(store)
                self.assertEqual(list(values), [name for name, size in names])
                for name, size in names:
                    self.assertIn(values[name], range(size))
                    self.assertEqual(space.value_of(store, name), values[name])
                    self.assertEqual(space.size_of(name), size)
                self.assertEqual(space.store_of(values), store)
                self.assertEqual(space.store_of(dict(reversed(list(values.items())))), store)

    def test_numbers_of_stores(self):
        space = Space([("coin", 2), ("seat", 3)])
        self.assertEqual(space.values_of(store=4), {"coin": 1, "seat": 1})
        self.assertEqual(space.store_of(values={"seat": 2, "coin": 0}), 2)
        self.assertEqual(space.value_of(store=5, name="seat"), 2)
        self.assertEqual(space.with_value(store=4, name="seat", value=5), 5)
        self.assertEqual(space.with_value(4, "coin", -2), 1)
        self.assertEqual(space.with_value(0, "seat", -10 ** 60), (-10 ** 60) % 3)
        self.assertEqual(space.size_of(name="coin"), 2)

    def test_values_are_new(self):
        space = Space([("x", 2)])
        values = space.values_of(1)
        values["x"] = 0
        self.assertEqual(space.values_of(1), {"x": 1})
        passed = {"x": 1}
        self.assertEqual(space.store_of(passed), 1)
        self.assertEqual(passed, {"x": 1})

    def test_with_value(self):
        for names in ALL:
            space = Space(names)
            for store in space.stores():
                for name, size in names:
                    for value in range(-7, 14):
                        values = space.values_of(store)
                        values[name] = value % size
                        self.assertEqual(space.with_value(store, name, value), space.store_of(values))

    def test_what_follows(self):
        space = Space([("coin", 2), ("seat", 3)])
        for store in space.stores():
            for coin in range(2):
                for seat in range(3):
                    one = space.with_value(space.with_value(store, "coin", coin), "seat", seat)
                    other = space.with_value(space.with_value(store, "seat", seat), "coin", coin)
                    self.assertEqual(one, other)
                    self.assertEqual(space.values_of(one), {"coin": coin, "seat": seat})
                    self.assertEqual(space.with_value(space.with_value(store, "seat", 1), "seat", seat),
                                     space.with_value(store, "seat", seat))

    def test_errors_and_their_order(self):
        space = Space([("coin", 2), ("seat", 3)])
        for store in [*[value for value in strange() if type(value) is not int], -1, 6, Ratio(1), "0"]:
            self.refused(InvalidStore, [store], space.values_of, store)
            self.refused(InvalidStore, [store], space.value_of, store, "x")
            self.refused(InvalidStore, [store], space.with_value, store, "x", "y")
        for name in [*strange(), "x", ["coin"], ("coin", 2)]:
            self.refused(InvalidName, [name], space.size_of, name)
            self.refused(InvalidName, [name], space.value_of, 0, name)
            self.refused(InvalidName, [name], space.with_value, 0, name, "y")
        for value in [value for value in strange() if type(value) is not int]:
            self.refused(InvalidValues, [value], space.with_value, 0, "coin", value)
        for values in [*strange(), {"coin": 0}, {"coin": 0, "seat": 0, "x": 0}, {"coin": 2, "seat": 0},
                       {"coin": 0, "seat": -1}, {"coin": True, "seat": 0}, {"coin": Ratio(1), "seat": 0},
                       {"coin": 0, "x": 0}, [("coin", 0), ("seat", 0)], {"coin": None, "seat": 0}]:
            self.refused(InvalidValues, [values], space.store_of, values)


if __name__ == "__main__":
    unittest.main()

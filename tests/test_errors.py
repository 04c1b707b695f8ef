import unittest

from evenpatch import errors
from evenpatch.errors import PactError

GIVEN = """InvalidNumber InvalidLots InvalidLot InvalidPayoff InvalidBlend InvalidNames InvalidStore InvalidValues
InvalidName InvalidParty InvalidSide InvalidText InvalidSystem InvalidUnit InvalidBody InvalidSteps InvalidAnswer
InvalidPart InvalidView InvalidFamilies InvalidRow InvalidPlan InvalidOutcomes InvalidPath InvalidCode InvalidLines
InvalidEdition InvalidPromised InvalidPrice InvalidPurse InvalidSession InvalidRecord""".split()

OTHERS = {"ByZero": [], "NoSystem": ["line", "column"], "NotFair": ["reason", "unit", "word"], "Outside": ["payoff"],
          "Apart": ["payoff"], "TooMany": ["count"], "TooRich": ["unit", "store", "side", "count"],
          "TooGreat": ["unit", "store"], "NotLet": ["side", "store", "plan", "payoff", "answer"],
          "TooDear": ["side", "store", "harm"], "NotAsked": [], "NoThing": ["name"], "NothingToUndo": []}

ALL = {**{name: ["given"] for name in GIVEN}, **OTHERS}


class Errors(unittest.TestCase):
    def test_heirs(self):
        self.assertEqual(PactError.__bases__, (ValueError,))
        for name in ALL:
            self.assertEqual(getattr(errors, name).__bases__, (PactError,), name)

    def test_no_further_ones(self):
        found = [name for name, thing in vars(errors).items() if isinstance(thing, type)]
        self.assertEqual(sorted(found), sorted([*ALL, "PactError"]))

    def test_by_position(self):
        for name, words in ALL.items():
            values = [[word] for word in words]
            error = getattr(errors, name)(*values)
            self.assertEqual(list(vars(error)), words, name)
            for word, value in zip(words, values):
                self.assertIs(getattr(error, word), value)

    def test_by_name_in_any_order(self):
        for name, words in ALL.items():
            values = {word: {"x": [word]} for word in reversed(words)}
            error = getattr(errors, name)(**values)
            for word in words:
                self.assertIs(getattr(error, word), values[word], name)

    def test_any_values(self):
        for value in (None, (), [], {}, -1, "x", ValueError("x")):
            self.assertIs(errors.InvalidLots(value).given, value)
            self.assertIs(errors.NoSystem(value, column=value).column, value)
            self.assertIs(errors.NotLet(1, 2, 3, 4, value).answer, value)

    def test_they_are_raised_and_caught(self):
        for name, words in ALL.items():
            with self.assertRaises(PactError) as caught:
                raise getattr(errors, name)(*words)
            str(caught.exception)
            repr(caught.exception)


if __name__ == "__main__":
    unittest.main()

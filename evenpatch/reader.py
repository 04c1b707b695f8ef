"""Reading the texts of systems, piece by piece, up to the first one with which no text goes on."""

from evenpatch.errors import NoSystem
from evenpatch.parties import FEWEST, MOST
from evenpatch.spaces import LETTERS, MOST_STORES, is_word
from evenpatch.trees import (DEEPEST, GREATEST_NUMBER, GREATEST_VALUE, GREATEST_WEIGHT, MOST_IN_ALL, MOST_IN_UNIT,
                             MOST_NAMES, MOST_UNITS, MOST_WHILES, SIGNS)

DIGITS = "0123456789"
PARTIES = ("p1", "p2", "p3")
STATEMENTS = ("set", "draw", "spin", "choose", "if", "while", "call")


class Reader:
    """The pieces of a string, and how far they are read.

    Each method takes just pieces with which some text goes on, whatever comes behind them; the first other one is
    refused. `budget` is how deep the expression or condition that comes may be.
    """

    def __init__(self, text):
        self.text = text
        self.spots = spots_of(text)
        self.at = 0
        self.parties = 0
        self.in_unit = 0
        self.in_all = 0

    def piece(self):
        """The next piece, or an empty string behind the last one."""
        if self.at == len(self.spots):
            return ""
        start, end = self.spots[self.at]
        return self.text[start:end]

    def refuse(self):
        """Tells the place of the next piece, or that behind the last sign."""
        start = len(self.text)
        if self.at < len(self.spots):
            start = self.spots[self.at][0]
        ahead = self.text[:start]
        raise NoSystem(ahead.count("\n") + 1, start - ahead.rfind("\n"))

    def take_one(self, pieces):
        """Takes the next piece, which is one of these."""
        piece = self.piece()
        if piece not in pieces:
            self.refuse()
        self.at = self.at + 1
        return piece

    def take_word(self):
        """Takes a word."""
        piece = self.piece()
        if not is_word(piece):
            self.refuse()
        self.at = self.at + 1
        return piece

    def take_number(self, low, high):
        """Takes an integer from low to high."""
        piece = self.piece()
        if not is_number_text(piece, low, high):
            self.refuse()
        self.at = self.at + 1
        return int(piece)

    def take_system(self):
        """Takes a whole text."""
        self.take_one(("parties",))
        self.parties = self.take_number(FEWEST, MOST)
        names = [self.take_name()]
        while self.piece() == "name" and len(names) < MOST_NAMES:
            names.append(self.take_name())
        units = [self.take_unit()]
        while self.piece() == "unit" and len(units) < MOST_UNITS:
            units.append(self.take_unit())
        if self.at < len(self.spots):
            self.refuse()
        return self.parties, tuple(names), tuple(units)

    def take_name(self):
        """Takes a name with its size."""
        self.take_one(("name",))
        word = self.take_word()
        return word, self.take_number(2, MOST_STORES)

    def take_unit(self):
        """Takes a unit."""
        self.take_one(("unit",))
        word = self.take_word()
        self.in_unit = 0
        return word, self.take_body(0)

    def take_body(self, whiles):
        """Takes a body with its braces, within so many whiles."""
        self.take_one(("{",))
        found = []
        while self.piece() in STATEMENTS:
            found.append(self.take_statement(whiles))
        self.take_one(("}",))
        return tuple(found)

    def take_statement(self, whiles):
        """Takes a statement, within so many whiles."""
        word = self.piece()
        if self.in_unit == MOST_IN_UNIT or self.in_all == MOST_IN_ALL or (word == "while" and whiles == MOST_WHILES):
            self.refuse()
        self.at = self.at + 1
        self.in_unit = self.in_unit + 1
        self.in_all = self.in_all + 1
        if word == "choose":
            return self.take_choice(whiles)
        if word == "if":
            condition = self.take_condition(DEEPEST)
            first = self.take_body(whiles)
            self.take_one(("else",))
            return "if", condition, first, self.take_body(whiles)
        if word == "while":
            condition = self.take_condition(DEEPEST)
            return "while", condition, self.take_body(whiles + 1)
        return self.take_plain(word)

    def take_plain(self, word):
        """Takes what stands behind the first word of a statement without bodies."""
        if word == "set":
            name = self.take_word()
            self.take_one(("=",))
            return "set", name, self.take_expression(DEEPEST)
        if word == "draw":
            name = self.take_word()
            return "draw", name, self.take_pairs()
        if word == "spin":
            party = self.take_party()
            name = self.take_word()
            return "spin", party, name, self.take_pairs()
        return "call", self.take_word()

    def take_party(self):
        """Takes a party of the system."""
        piece = self.take_one(PARTIES[:self.parties])
        return int(piece[1:])

    def take_who(self):
        """Takes a party of the system, or the net."""
        if self.piece() == "net":
            self.at = self.at + 1
            return 0
        return self.take_party()

    def take_pairs(self):
        """Takes two or three values with their weights."""
        found = [self.take_pair(), self.take_pair()]
        if is_number_text(self.piece(), 0, GREATEST_VALUE):
            found.append(self.take_pair())
        return tuple(found)

    def take_pair(self):
        """Takes a value with its weight."""
        value = self.take_number(0, GREATEST_VALUE)
        self.take_one(("by",))
        return value, self.take_number(1, GREATEST_WEIGHT)

    def take_choice(self, whiles):
        """Takes what stands behind the first word of a choose."""
        who = self.take_who()
        found = [self.take_label(whiles)]
        self.take_one(("or",))
        found.append(self.take_label(whiles))
        if self.piece() == "or":
            self.at = self.at + 1
            found.append(self.take_label(whiles))
        return "choose", who, tuple(found)

    def take_label(self, whiles):
        """Takes a label with its body."""
        word = self.take_word()
        return word, self.take_body(whiles)

    def take_expression(self, budget):
        """Takes an expression; one that begins with a parenthesis has a sign behind this one."""
        if self.piece() != "(":
            first = self.take_operand(budget)
            if budget < 2 or self.piece() not in SIGNS:
                return first
        else:
            first = self.take_operand(budget - 1)
        sign = self.take_one(SIGNS)
        return sign, first, self.take_operand(budget - 1)

    def take_operand(self, budget):
        """Takes an integer, a name, or an expression with a sign in parentheses."""
        piece = self.piece()
        if piece == "(":
            if budget < 2:
                self.refuse()
            self.at = self.at + 1
            first = self.take_operand(budget - 1)
            sign = self.take_one(SIGNS)
            second = self.take_operand(budget - 1)
            self.take_one((")",))
            return sign, first, second
        if is_word(piece):
            return "name", self.take_word()
        return "num", self.take_number(0, GREATEST_NUMBER)

    def take_condition(self, budget):
        """Takes a condition."""
        piece = self.piece()
        if piece == "yes":
            self.at = self.at + 1
            return ("yes",)
        if budget < 2:
            self.refuse()
        if piece == "not":
            self.at = self.at + 1
            return "not", self.take_inner_condition(budget - 1)
        if piece == "[":
            first = self.take_inner_condition(budget - 1)
            word = self.take_one(("and", "or"))
            return word, first, self.take_inner_condition(budget - 1)
        first = self.take_expression(budget - 1)
        kind = "less" if self.take_one(("<", "=")) == "<" else "same"
        return kind, first, self.take_expression(budget - 1)

    def take_inner_condition(self, budget):
        """Takes a condition with its brackets."""
        self.take_one(("[",))
        found = self.take_condition(budget)
        self.take_one(("]",))
        return found


def spots_of(text):
    """The list of the tuples (start, end) of the pieces of a string."""
    found = []
    start = -1
    for at, sign in enumerate(text):
        if sign in LETTERS or sign in DIGITS:
            if start < 0:
                start = at
        else:
            if start >= 0:
                found.append((start, at))
                start = -1
            if sign != " " and sign != "\n":
                found.append((at, at + 1))
    if start >= 0:
        found.append((start, len(text)))
    return found


def is_number_text(value, low, high):
    """Whether a piece is an integer from low to high, both below 100, without leading zeros."""
    if not 1 <= len(value) <= 2 or not all([sign in DIGITS for sign in value]):
        return False
    return str(int(value)) == value and low <= int(value) <= high

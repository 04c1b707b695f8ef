"""A second reader of texts, by a pile of what is still to come; it judges piece by piece what some text goes on with.

It is written in another way than the package's reader on purpose: each thing that may come is a tuple, and `opened` tells
what a thing becomes ahead of a piece. `finish` tells pieces with which a text ends from here, so that whatever has
been taken is shown to be the beginning of a text.
"""

RESERVED = set("and by call choose draw else if name net not or parties set spin unit while yes".split())
STATEMENTS = {"set", "draw", "spin", "choose", "if", "while", "call"}


def is_word(piece):
    return 1 <= len(piece) <= 8 and all("a" <= sign <= "z" for sign in piece) and piece not in RESERVED


def is_number(piece, low, high):
    return piece in [str(number) for number in range(low, high + 1)]


class Pile:
    def __init__(self):
        self.parties = 0
        self.here = 0
        self.all = 0
        self.pile = [("units", 3), ("unit",), ("names",), ("name",), ("number", 2, 3), ("one", "parties")]

    def take(self, piece):
        """Takes a piece, if some text goes on with it; tells whether it does."""
        while self.pile:
            top = self.pile.pop()
            done = self.matched(top, piece)
            if done is not None:
                return done
            further = self.opened(top, piece)
            if further is None:
                return False
            self.pile.extend(reversed(further))
        return False

    def matched(self, top, piece):
        kind = top[0]
        if kind == "one":
            return piece in top[1:]
        if kind == "word":
            return is_word(piece)
        if kind == "number":
            if top[1:] == (2, 3):
                self.parties = int(piece) if is_number(piece, 2, 3) else 0
            return is_number(piece, *top[1:])
        if kind == "party":
            return piece in ["p1", "p2", "p3"][:self.parties]
        if kind == "who":
            return piece in ["net", "p1", "p2", "p3"][:self.parties + 1]
        return None

    def opened(self, top, piece):
        kind = top[0]
        if kind == "name":
            return [("one", "name"), ("word",), ("number", 2, 6)]
        if kind == "names":
            return [("name",)] if piece == "name" else []
        if kind == "unit":
            self.here = 0
            return [("one", "unit"), ("word",), ("body", 0)]
        if kind == "units":
            return [("unit",), ("units", top[1] - 1)] if piece == "unit" and top[1] > 0 else []
        if kind == "body":
            return [("one", "{"), ("rows", top[1]), ("one", "}")]
        if kind == "rows":
            return self.row(top[1], piece)
        if kind == "pair":
            return [("number", 0, 5), ("one", "by"), ("number", 1, 12)]
        if kind == "third":
            return [("pair",)] if is_number(piece, 0, 5) else []
        if kind == "label":
            return [("word",), ("body", top[1])]
        if kind == "more":
            return [("one", "or"), ("label", top[1])] if piece == "or" else []
        if kind == "sum":
            return self.sum(top[1], piece)
        if kind == "rest":
            return [("one", *"+-*"), ("part", top[1])] if piece in "+-*" else []
        if kind == "part":
            return self.part(top[1], piece)
        return self.condition(top[1], piece)

    def row(self, whiles, piece):
        if piece not in STATEMENTS:
            return []
        if self.here == 20 or self.all == 40 or (piece == "while" and whiles == 3):
            return None
        self.here += 1
        self.all += 1
        behind = {"set": [("word",), ("one", "="), ("sum", 6)],
                  "draw": [("word",), ("pair",), ("pair",), ("third",)],
                  "spin": [("party",), ("word",), ("pair",), ("pair",), ("third",)],
                  "choose": [("who",), ("label", whiles), ("one", "or"), ("label", whiles), ("more", whiles)],
                  "if": [("condition", 6), ("body", whiles), ("one", "else"), ("body", whiles)],
                  "while": [("condition", 6), ("body", whiles + 1)],
                  "call": [("word",)]}
        return [("one", piece), *behind[piece], ("rows", whiles)]

    def sum(self, depth, piece):
        if piece == "(":
            return [("part", depth - 1), ("one", *"+-*"), ("part", depth - 1)]
        return [("part", depth)] + ([("rest", depth - 1)] if depth > 1 else [])

    def part(self, depth, piece):
        if piece == "(":
            if depth < 2:
                return None
            return [("one", "("), ("part", depth - 1), ("one", *"+-*"), ("part", depth - 1), ("one", ")")]
        return [("word",)] if is_word(piece) else [("number", 0, 99)]

    def condition(self, depth, piece):
        inner = [("one", "["), ("condition", depth - 1), ("one", "]")]
        if piece == "yes":
            return [("one", "yes")]
        if depth == 1:
            return None
        if piece == "not":
            return [("one", "not"), *inner]
        if piece == "[":
            return [*inner, ("one", "and", "or"), *inner]
        return [("sum", depth - 1), ("one", "<", "="), ("sum", depth - 1)]

    def finish(self):
        """Pieces that end a text from here."""
        shortest = {"word": ["w"], "party": ["p1"], "who": ["net"], "name": ["name", "w", "2"],
                    "unit": ["unit", "w", "{", "}"], "body": ["{", "}"], "pair": ["0", "by", "1"],
                    "label": ["w", "{", "}"], "sum": ["1"], "part": ["1"], "condition": ["yes"]}
        found = []
        for top in reversed(self.pile):
            if top[0] == "one":
                found.append(top[1])
            elif top[0] == "number":
                found.append(str(top[1]))
            else:
                found.extend(shortest.get(top[0], []))
        return found


def pieces_of(text):
    """The list of the tuples (piece, line, column) of a string."""
    found = []
    line, column, run = 1, 1, False
    for sign in text:
        plain = sign.isascii() and (sign.islower() or sign.isdigit())
        if plain and run:
            piece, at, by = found[-1]
            found[-1] = (piece + sign, at, by)
        elif sign not in " \n":
            found.append((sign, line, column))
        run = plain
        column += 1
        if sign == "\n":
            line, column = line + 1, 1
    return found, line, column


def place_of(text):
    """What NoSystem is to tell for a string, with pieces that end a text from there; None for the place of a text."""
    pieces, line, column = pieces_of(text)
    pile = Pile()
    for at, (piece, row, place) in enumerate(pieces):
        last = Pile()
        last.pile, last.parties, last.here, last.all = list(pile.pile), pile.parties, pile.here, pile.all
        if not pile.take(piece):
            return (row, place), [one for one, _, _ in pieces[:at]] + last.finish()
    ending = pile.finish()
    whole = [one for one, _, _ in pieces] + ending
    return (None if not ending else (line, column)), whole

"""Systems made up for tests: forms that keep all bounds, and fair ones."""

SIGNS = ("+", "-", "*")
WORDS = ("a", "b", "x", "y", "coin", "seat", "toss", "game", "label", "abcdefgh", "p", "sets", "yesno")


def some_expression(rng, depth, words):
    if depth == 1 or rng.random() < 0.4:
        if rng.random() < 0.5:
            return "num", rng.choice([0, 1, 2, 9, 10, 99])
        return "name", rng.choice(words)
    return rng.choice(SIGNS), some_expression(rng, depth - 1, words), some_expression(rng, depth - 1, words)


def some_condition(rng, depth, words):
    if depth == 1 or rng.random() < 0.1:
        return ("yes",)
    kind = rng.choice(["less", "same", "not", "and", "or"])
    if kind in ("less", "same"):
        return kind, some_expression(rng, depth - 1, words), some_expression(rng, depth - 1, words)
    if kind == "not":
        return kind, some_condition(rng, depth - 1, words)
    return kind, some_condition(rng, depth - 1, words), some_condition(rng, depth - 1, words)


class Maker:
    """Makes bodies with at most so many statements; `fair` ones have right names, values, labels and calls."""

    def __init__(self, rng, parties, names, units, left, fair):
        self.rng = rng
        self.parties = parties
        self.names = names
        self.units = units
        self.left = left
        self.fair = fair
        self.words = [name for name, size in names] if fair else WORDS
        self.whiles = 3
        self.deepest = 6

    def pairs(self, size):
        top = size - 1 if self.fair else 5
        many = self.rng.randint(2, min(3, size) if self.fair else 3)
        values = self.rng.sample(range(top + 1), many) if self.fair else [self.rng.randint(0, 5) for _ in range(many)]
        return tuple((value, self.rng.randint(1, 12)) for value in values)

    def labels(self):
        many = self.rng.randint(2, 3)
        if self.fair:
            return self.rng.sample(WORDS, many)
        return [self.rng.choice(WORDS) for _ in range(many)]

    def body(self, whiles, level):
        found = []
        while self.left > 0 and self.rng.random() < 0.75 - 0.05 * level:
            self.left -= 1
            found.append(self.statement(whiles, level))
        return tuple(found)

    def statement(self, whiles, level):
        rng = self.rng
        name, size = rng.choice(self.names)
        if not self.fair:
            name = rng.choice(WORDS)
        kinds = ["set", "draw", "spin", "choose", "if", "choose", "if"]
        kinds += ["while"] * (whiles < self.whiles) * 2 + ["call"] * (len(self.units) > 0)
        kind = rng.choice(kinds)
        depth = rng.randint(1, self.deepest)
        if kind == "set":
            return kind, name, some_expression(rng, depth, self.words)
        if kind == "draw":
            return kind, name, self.pairs(size)
        if kind == "spin":
            return kind, rng.randint(1, self.parties), name, self.pairs(size)
        if kind == "choose":
            labels = self.labels()
            return kind, rng.randint(0, self.parties), tuple((word, self.body(whiles, level + 1)) for word in labels)
        if kind == "if":
            condition = some_condition(rng, depth, self.words)
            return kind, condition, self.body(whiles, level + 1), self.body(whiles, level + 1)
        if kind == "while":
            return kind, some_condition(rng, depth, self.words), self.body(whiles + 1, level + 1)
        return kind, rng.choice(self.units)


def some_names(rng, fair):
    if not fair:
        return tuple((rng.choice(WORDS), rng.randint(2, 6)) for _ in range(rng.randint(1, 2)))
    sizes = rng.choice([(2,), (3,), (6,), (2, 2), (2, 3), (3, 2), (4,), (5,)])
    return tuple(zip(rng.sample(["x", "y", "z"], len(sizes)), sizes))


def some_system(rng, fair=False):
    parties = rng.randint(2, 3)
    names = some_names(rng, fair)
    many = rng.randint(1, 4)
    words = rng.sample(["toss", "game", "u", "v", "last"], many) if fair else [rng.choice(WORDS) for _ in range(many)]
    units = []
    left = 40
    for at, word in enumerate(words):
        most = rng.choice([0, 1, 3, 7, 20])
        called = words[:at] if fair else WORDS
        maker = Maker(rng, parties, names, called, min(most, left), fair)
        body = maker.body(0, 0)
        left -= min(most, left) - maker.left
        units.append((word, body))
    return parties, names, tuple(units)


def count(body):
    total = 0
    for statement in body:
        total += 1
        if statement[0] == "choose":
            total += sum(count(inner) for label, inner in statement[2])
        if statement[0] in ("if", "while"):
            total += sum(count(inner) for inner in statement[2:])
    return total

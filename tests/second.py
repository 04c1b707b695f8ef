"""A second way to go through systems: bodies as generators that yield what they ask for, with values in dicts."""

from systems import Maker, some_names


def worth(tree, values):
    if tree[0] == "num":
        return tree[1]
    if tree[0] == "name":
        return values[tree[1]]
    one, other = worth(tree[1], values), worth(tree[2], values)
    return {"+": one + other, "-": one - other, "*": one * other}[tree[0]]


def true(tree, values):
    kind = tree[0]
    if kind == "yes":
        return True
    if kind == "less":
        return worth(tree[1], values) < worth(tree[2], values)
    if kind == "same":
        return worth(tree[1], values) == worth(tree[2], values)
    if kind == "not":
        return not true(tree[1], values)
    parts = [true(one, values) for one in tree[1:]]
    return all(parts) if kind == "and" else any(parts)


def parts_of(pairs):
    """The values of the parts of a wheel, one behind the other."""
    return [value for value, weight in pairs for _ in range(weight)]


class Second:
    """A session; `bodies(unit, caller)` tells the body of a call that begins and a mark of it, for the caller's mark."""

    def __init__(self, names, bodies, last, store):
        self.names = names
        self.bodies = bodies
        self.values = {}
        for name, size in reversed(names):
            self.values[name] = store % size
            store //= size
        self.lines = []
        self.marks = []
        self.going = self.unit(last, None)
        self.asked = next(self.going)

    def store(self):
        store = 0
        for name, size in self.names:
            store = store * size + self.values[name]
        return store

    def answer(self, answer=None):
        """Does one step; the question behind it."""
        try:
            self.asked = self.going.send(answer)
        except StopIteration:
            self.asked = ("over", self.store())
        return self.asked

    def unit(self, unit, caller):
        body, mark = self.bodies(unit, caller)
        if caller is not None:
            self.lines.append(f"call {unit} {mark}")
        self.marks.append((unit, mark))
        yield from self.body(body, (unit, mark))
        yield ("back", unit)
        self.lines.append(f"back {unit}")
        self.marks.pop()

    def body(self, body, mark):
        for statement in body:
            yield from getattr(self, "do_" + statement[0])(statement, mark)

    def do_set(self, statement, mark):
        _, name, tree = statement
        self.values[name] = worth(tree, self.values) % dict(self.names)[name]
        yield from ()

    def do_draw(self, statement, mark, word="turn", who=()):
        name, parts = statement[-2], parts_of(statement[-1])
        part = yield (word, *who, len(parts))
        self.lines.append(f"{word} {part} of {len(parts)}")
        self.values[name] = parts[part]

    def do_spin(self, statement, mark):
        yield from self.do_draw(statement, mark, "spin", statement[1:2])

    def do_choose(self, statement, mark):
        label = yield ("choose", statement[1], tuple(word for word, _ in statement[2]))
        self.lines.append(f"choose {label}")
        yield from self.body(dict(statement[2])[label], mark)

    def do_if(self, statement, mark):
        yield from self.body(statement[2 if true(statement[1], self.values) else 3], mark)

    def do_while(self, statement, mark):
        while true(statement[1], self.values):
            yield ("loop",)
            self.lines.append("loop")
            yield from self.body(statement[2], mark)

    def do_call(self, statement, mark):
        yield ("call", statement[1])
        yield from self.unit(statement[1], mark)


def any_answer(rng, asked):
    """Some right answer to a question."""
    if asked[0] == "choose":
        return rng.choice(asked[2])
    if asked[0] in ("turn", "spin"):
        return rng.randrange(asked[-1])
    return None


def of_system(system, store):
    """A session of a system, whose marks are all 0."""
    bodies = dict(system[2])
    return Second(system[1], lambda unit, caller: (bodies[unit], 0), system[2][-1][0], store)


def played(system, store, rng, steps):
    """The session behind at most so many steps with any answers, and the items that were taken."""
    session = of_system(system, store)
    items = []
    for _ in range(steps):
        if session.asked[0] == "over":
            break
        answer = any_answer(rng, session.asked)
        if answer is not None:
            items.append(answer)
        session.answer(answer)
    return session, items


class Small(Maker):
    """Makes small fair bodies with shallow expressions, and with loops, calls and choices of all parties."""

    def __init__(self, rng, parties, names, units, left):
        Maker.__init__(self, rng, parties, names, units, left, True)
        self.deepest = 3


def small_body(rng, parties, names, units, most):
    return Small(rng, parties, names, units, most).body(0, 0)


def small_system(rng, many=None, most=5, names=None, parties=None):
    """A fair system of a few small units."""
    parties = parties or rng.randint(2, 3)
    names = names or (some_names(rng, True) if rng.random() < 0.4 else (("x", rng.choice([2, 2, 3])),))
    many = many or rng.randint(1, 3)
    words = ["toss", "mid", "game", "last"][-many:]
    units = []
    for at, word in enumerate(words):
        body = ()
        while not body and rng.random() < 0.9:
            body = small_body(rng, parties, names, words[:at], rng.randint(1, most))
        units.append((word, body))
    return parties, names, tuple(units)

"""Systems without loops, and what is forced in them, step by step over what is left to do: a plain second way."""

from fractions import Fraction

from second import Small, true, worth
from systems import some_names


def free_body(rng, parties, names, units, most, without=()):
    """A small body without loops, and without the kinds of statements that are told."""
    while True:
        maker = Small(rng, parties, names, units, most)
        maker.whiles = 0
        body = maker.body(0, 0)
        if not any(statement[0] in without for statement in all_of(body)):
            return body


def all_of(body):
    for statement in body:
        yield statement
        if statement[0] == "choose":
            for _, inner in statement[2]:
                yield from all_of(inner)
        if statement[0] in ("if", "while"):
            for inner in statement[2:]:
                yield from all_of(inner)


def free_system(rng, many=None, most=5, without=(), names=None):
    parties = rng.randint(2, 3)
    names = names or (some_names(rng, True) if rng.random() < 0.3 else (("x", rng.choice([2, 2, 3])),))
    words = ["toss", "mid", "game"][-(many or rng.randint(1, 3)):]
    units = []
    for at, word in enumerate(words):
        units.append((word, free_body(rng, parties, names, words[:at], rng.randint(1, most), without)))
    return parties, names, tuple(units)


def values_in(names, store):
    values = {}
    for name, size in reversed(names):
        values[name] = store % size
        store //= size
    return values


def store_in(names, values):
    store = 0
    for name, size in names:
        store = store * size + values[name]
    return store


def forced_plainly(system, unit, store, side, payoff):
    """What a side forces from a store in a unit without loops."""
    bodies = dict(system[2])
    return forced_by(system[1], bodies, bodies[unit], store, side, payoff)


def forced_by(names, bodies, body, store, side, payoff):
    known = {}

    def left(todo, at):
        if (todo, at) not in known:
            known[(todo, at)] = step(todo, at)
        return known[(todo, at)]

    def step(todo, at):
        if not todo:
            return Fraction(payoff[at])
        statement, rest = todo[0], todo[1:]
        values = values_in(names, at)
        kind = statement[0]
        if kind == "call":
            return left(bodies[statement[1]] + rest, at)
        if kind == "if":
            return left(statement[2 if true(statement[1], values) else 3] + rest, at)
        if kind == "choose":
            found = [left(inner + rest, at) for _, inner in statement[2]]
            return max(found) if statement[1] in side else min(found)
        sizes = dict(names)
        if kind == "set":
            values[statement[1]] = worth(statement[2], values) % sizes[statement[1]]
            return left(rest, store_in(names, values))
        found = []
        for value, weight in statement[-1]:
            values[statement[-2]] = value
            found.append((left(rest, store_in(names, values)), weight))
        if kind == "spin" and statement[1] not in side:
            return min(number for number, _ in found)
        return sum(number * weight for number, weight in found) / sum(weight for _, weight in found)

    return left(body, store)

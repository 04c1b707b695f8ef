"""Running code: from one row that asks to the next."""

from evenpatch.asked import need_store
from evenpatch.code import need_code
from evenpatch.coderows import is_asking
from evenpatch.errors import InvalidAnswer, InvalidCode, InvalidNames, InvalidRow
from evenpatch.kinds import is_within
from evenpatch.meaning import value_of_part, wheel_size
from evenpatch.spaces import Space


def settled(space, code, at, store):
    """The tuple of the number of the first row from a row on that asks, and of the store then."""
    need_code_over(space, code)
    if not is_within(at, 0, len(code.rows) - 1) or code.heights[at] != 0:
        raise InvalidRow(at)
    need_store(space, store)
    return settle(space, code.rows, at, store)


def question(code, at):
    """What the row with a number asks for."""
    need_code(code)
    need_asking(code, at)
    row = code.rows[at]
    kind = row[0]
    if kind == "draw":
        return "turn", wheel_size(row[2])
    if kind == "spin":
        return "spin", row[1], wheel_size(row[3])
    if kind == "choose":
        return "choose", row[1], tuple([label for label, target in row[2]])
    return row


def answered(space, code, at, store, answer):
    """What settled returns behind an answer to what a row asks for."""
    need_code_over(space, code)
    need_asking(code, at)
    need_store(space, store)
    row = code.rows[at]
    kind = row[0]
    if not is_answer(space, row, answer):
        raise InvalidAnswer(answer)
    target = at + 1
    if kind == "choose":
        target = dict(row[2])[answer]
    elif kind == "draw" or kind == "spin":
        store = space.with_value(store, row[-2], value_of_part(row[-1], answer))
    elif kind == "call":
        store = answer
    return settle(space, code.rows, target, store)


def settle(space, rows, at, store):
    """Runs rows from one on, with an empty pile, up to the first one that asks."""
    pile = []
    while not is_asking(rows[at]):
        row = rows[at]
        at += 1
        if row[0] == "save":
            store = space.with_value(store, row[1], pile.pop())
        elif row[0] == "load":
            pile.append(space.value_of(store, row[1]))
        elif row[0] == "push":
            pile.append(row[1])
        elif row[0] == "go":
            at = row[1]
        elif row[0] == "unless":
            if pile.pop() == 0:
                at = row[1]
        elif row[0] == "not":
            pile.append(int(pile.pop() == 0))
        else:
            top = pile.pop()
            pile.append(joined(row[0], pile.pop(), top))
    return at, store


def joined(kind, one, other):
    """What a row puts for two integers, the second one of them from the top."""
    if kind == "add":
        return one + other
    if kind == "take":
        return one - other
    if kind == "times":
        return one * other
    if kind == "less":
        return int(one < other)
    if kind == "same":
        return int(one == other)
    if kind == "and":
        return int(one != 0 and other != 0)
    return int(one != 0 or other != 0)


def is_answer(space, row, answer):
    """Whether any value is an answer to what a row asks for."""
    kind = row[0]
    if kind == "loop":
        return answer is None
    if kind == "draw" or kind == "spin":
        return is_within(answer, 0, wheel_size(row[-1]) - 1)
    if kind == "choose":
        return isinstance(answer, str) and answer in [label for label, target in row[2]]
    return kind == "call" and is_within(answer, 0, space.never - 1)


def need_code_over(space, code):
    """Refuses what is no Space, and then what is no Code over it."""
    if not isinstance(space, Space):
        raise InvalidNames(space)
    need_code(code)
    for row in code.rows:
        if not is_over(space, row):
            raise InvalidCode(code)


def is_over(space, row):
    """Whether the names and values of a row are those of a space."""
    kind = row[0]
    if kind == "load" or kind == "save":
        return row[1] in space
    if kind == "draw" or kind == "spin":
        return row[-2] in space and max([value for value, weight in row[-1]]) < space.size_of(row[-2])
    return True


def need_asking(code, at):
    """Refuses what is not the number of a row that asks."""
    if not is_within(at, 0, len(code.rows) - 1) or not is_asking(code.rows[at]):
        raise InvalidRow(at)

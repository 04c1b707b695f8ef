"""What can be wrong in a system whose form is right."""

from evenpatch.bodies import walked, words_within
from evenpatch.spaces import MOST_STORES, stores_by


def first_fault(system):
    """The tuple (reason, unit, word) of the first thing that is wrong in a system, None if nothing is."""
    _, names, units = system
    word = first_twice([item[0] for item in names] + [item[0] for item in units])
    if word is not None:
        return "twice", None, word
    if stores_by(names) > MOST_STORES:
        return "stores", None, names[1][0]
    for unit, body in units:
        fault = body_fault(system, unit, body)
        if fault is not None:
            return fault
    return None


def body_fault(system, unit, body):
    """The tuple (reason, unit, word) of the first thing that is wrong in a body as that of a unit, or None."""
    sizes = dict(system[1])
    units = [other for other, _ in system[2]]
    ahead = units[:units.index(unit)]
    for _, statement in walked(body, ()):
        reason, word = statement_fault(statement, sizes, ahead)
        if reason is not None:
            return reason, unit, word
    return None


def first_twice(words):
    """The first word that equals one ahead of it, or None."""
    for at, word in enumerate(words):
        if word in words[:at]:
            return word
    return None


def statement_fault(statement, sizes, ahead):
    """The tuple (reason, word) of the first thing that is wrong in a statement, apart from its bodies, or two None."""
    for word in names_of(statement):
        if word not in sizes:
            return "name", word
    kind = statement[0]
    if kind == "draw" or kind == "spin":
        name = statement[-2]
        values = [value for value, weight in statement[-1]]
        if first_twice(values) is not None or max(values) >= sizes[name]:
            return "value", name
    if kind == "choose":
        label = first_twice([label for label, body in statement[2]])
        if label is not None:
            return "label", label
    if kind == "call" and statement[1] not in ahead:
        return "call", statement[1]
    return None, None


def names_of(statement):
    """The words that stand as names in a statement, apart from its bodies, from left to right."""
    kind = statement[0]
    if kind == "set":
        return [statement[1], *words_within(statement[2])]
    if kind == "draw" or kind == "spin":
        return [statement[-2]]
    if kind == "if" or kind == "while":
        return words_within(statement[1])
    return []

"""The form of systems: bodies, statements, expressions and conditions, with all their bounds.

What is judged here may hold the same tuple at many places, so each judge stops as soon as a bound is passed.
"""

from evenpatch.kinds import is_tuple_of, is_within
from evenpatch.parties import FEWEST, MOST
from evenpatch.spaces import is_name_with_size, is_word

MOST_NAMES = 2
MOST_UNITS = 4
MOST_IN_UNIT = 20
MOST_IN_ALL = 40
MOST_WHILES = 3
DEEPEST = 6
GREATEST_NUMBER = 99
GREATEST_VALUE = 5
GREATEST_WEIGHT = 12
SIGNS = ("+", "-", "*")


def is_system_form(value):
    """Whether any value is a system, fair or not."""
    if not is_tuple_of(value, 3) or not is_within(value[0], FEWEST, MOST):
        return False
    parties, names, units = value
    if not isinstance(names, tuple) or not 1 <= len(names) <= MOST_NAMES:
        return False
    return all([is_name_with_size(item) for item in names]) and is_units(units, parties)


def is_units(value, parties):
    """Whether any value is a tuple of 1 to 4 units that keep the bounds of their bodies."""
    if not isinstance(value, tuple) or not 1 <= len(value) <= MOST_UNITS:
        return False
    total = 0
    for item in value:
        if not is_tuple_of(item, 2) or not is_word(item[0]):
            return False
        count = count_in_body(item[1], parties, 0, MOST_IN_UNIT)
        if count < 0:
            return False
        total = total + count
    return total <= MOST_IN_ALL


def is_body_beside(value, parties, count):
    """Whether any value is a body of a unit that keeps all bounds while other units have so many statements."""
    found = count_in_body(value, parties, 0, MOST_IN_UNIT)
    return 0 <= found <= MOST_IN_ALL - count


def count_in_body(value, parties, whiles, most):
    """How many statements any value has as a body within so many whiles, -1 if it is no body, or has more than most."""
    if not isinstance(value, tuple):
        return -1
    total = 0
    for statement in value:
        if total == most:
            return -1
        inner = count_in_statement(statement, parties, whiles, most - total - 1)
        if inner < 0:
            return -1
        total = total + 1 + inner
    return total


def count_in_statement(value, parties, whiles, most):
    """How many statements the bodies of any value have, -1 if it is no statement, or if these are more than most."""
    if not isinstance(value, tuple) or len(value) < 2:
        return -1
    inner_whiles = whiles
    if value[0] == "while":
        inner_whiles = whiles + 1
    if inner_whiles > MOST_WHILES:
        return -1
    bodies = bodies_within(value, parties)
    if bodies is None:
        return -1
    total = 0
    for body in bodies:
        count = count_in_body(body, parties, inner_whiles, most - total)
        if count < 0:
            return -1
        total = total + count
    return total


def bodies_within(value, parties):
    """The tuple of what stands for bodies in a tuple that is a statement in all else, otherwise None."""
    kind = value[0]
    if kind == "choose":
        if len(value) == 3 and is_within(value[1], 0, parties) and is_labels(value[2]):
            return tuple([body for label, body in value[2]])
    elif kind == "if":
        if len(value) == 4 and is_condition(value[1], DEEPEST):
            return value[2:]
    elif kind == "while":
        if len(value) == 3 and is_condition(value[1], DEEPEST):
            return value[2:]
    elif is_plain(value, parties):
        return ()
    return None


def is_plain(value, parties):
    """Whether a tuple is a statement without bodies."""
    kind = value[0]
    if kind == "set":
        return len(value) == 3 and is_word(value[1]) and is_expression(value[2], DEEPEST)
    if kind == "draw":
        return len(value) == 3 and is_word(value[1]) and is_pairs(value[2])
    if kind == "spin":
        return len(value) == 4 and is_within(value[1], 1, parties) and is_word(value[2]) and is_pairs(value[3])
    return kind == "call" and len(value) == 2 and is_word(value[1])


def is_pairs(value):
    """Whether any value is a tuple of two or three tuples (value, weight)."""
    if not isinstance(value, tuple) or not 2 <= len(value) <= 3:
        return False
    return all([is_pair(item) for item in value])


def is_pair(value):
    """Whether any value is a tuple (value, weight)."""
    return is_tuple_of(value, 2) and is_within(value[0], 0, GREATEST_VALUE) and is_within(value[1], 1, GREATEST_WEIGHT)


def is_labels(value):
    """Whether any value is a tuple of two or three tuples of a label and what stands for a body."""
    if not isinstance(value, tuple) or not 2 <= len(value) <= 3:
        return False
    return all([is_tuple_of(item, 2) and is_word(item[0]) for item in value])


def is_expression(value, depth):
    """Whether any value is an expression that is at most so deep."""
    if depth < 1 or not isinstance(value, tuple) or not 2 <= len(value) <= 3:
        return False
    kind = value[0]
    if len(value) == 3:
        return kind in SIGNS and is_expression(value[1], depth - 1) and is_expression(value[2], depth - 1)
    if kind == "num":
        return is_within(value[1], 0, GREATEST_NUMBER)
    return kind == "name" and is_word(value[1])


def is_condition(value, depth):
    """Whether any value is a condition that is at most so deep."""
    if depth < 1 or not isinstance(value, tuple) or not 1 <= len(value) <= 3:
        return False
    kind = value[0]
    if len(value) == 1:
        return kind == "yes"
    if len(value) == 2:
        return kind == "not" and is_condition(value[1], depth - 1)
    if kind == "less" or kind == "same":
        return is_expression(value[1], depth - 1) and is_expression(value[2], depth - 1)
    return (kind == "and" or kind == "or") and is_condition(value[1], depth - 1) and is_condition(value[2], depth - 1)

"""Sheets: what all sides lose and win by a body; and labels that are idle."""

from evenpatch.asked import need_unit_of
from evenpatch.checks import statements, with_body
from evenpatch.errors import InvalidPath
from evenpatch.kinds import is_whole
from evenpatch.meets import rivals_of
from evenpatch.parties import sides
from evenpatch.workshop import Workshop


def sheet(system, unit, body):
    """The list of the tuples (side, harms, gains) of all sides."""
    changed = with_body(system, unit, body)
    shop = Workshop(system)
    back = Workshop(changed)
    old = shop.bodies[unit]
    found = []
    for side in sides(system[0]):
        harms = rivals_of(shop, unit, body, side).harms()
        found.append((side, harms, rivals_of(back, unit, old, side).harms()))
    return found


def idle(system, unit, path):
    """For each label of a choose the list of the sides for which it is idle."""
    need_unit_of(system, unit)
    told = dict(statements(system, unit))
    if not is_path_of_choose(path, told):
        raise InvalidPath(path)
    shop = Workshop(system)
    body = shop.bodies[unit]
    found = []
    for index in range(len(told[path][2])):
        other = without_label(body, path, index)
        back = Workshop(with_body(system, unit, other))
        idlers = []
        for side in sides(system[0]):
            is_there = rivals_of(shop, unit, other, side).is_let()
            is_back = rivals_of(back, unit, body, side).is_let()
            if is_there and is_back:
                idlers.append(side)
        found.append(idlers)
    return found


def is_path_of_choose(value, told):
    """Whether any value is the path of a choose; `told` has all statements by their paths."""
    if not isinstance(value, tuple) or not all([is_whole(item) for item in value]):
        return False
    return value in told and told[value][0] == "choose"


def without_label(body, path, index):
    """A body without one label of the choose with a path."""
    at = path[0]
    ahead, statement, behind = body[:at], body[at], body[at + 1:]
    if len(path) == 1:
        pairs = statement[2][:index] + statement[2][index + 1:]
        if len(pairs) == 1:
            return (*ahead, *pairs[0][1], *behind)
        return (*ahead, (*statement[:2], pairs), *behind)
    inner = without_label(inner_of(statement, path[1]), path[2:], index)
    return (*ahead, with_inner(statement, path[1], inner), *behind)


def inner_of(statement, at):
    """The body of a statement with an index."""
    if statement[0] == "choose":
        return statement[2][at][1]
    return statement[2 + at]


def with_inner(statement, at, body):
    """A statement with another body in the place of that with an index."""
    if statement[0] == "choose":
        pairs = statement[2]
        return (*statement[:2], (*pairs[:at], (pairs[at][0], body), *pairs[at + 1:]))
    return (*statement[:2 + at], body, *statement[3 + at:])

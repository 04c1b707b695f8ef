"""Fair systems, and what stands in them."""

from evenpatch.bodies import count_of, walked
from evenpatch.errors import InvalidBody, InvalidSystem, InvalidUnit, NotFair
from evenpatch.faults import body_fault, first_fault
from evenpatch.spaces import Space
from evenpatch.texts import is_tree
from evenpatch.trees import is_body_beside


def check_system(system):
    """Refuses what is no system, and a system that is not fair."""
    if not is_tree(system):
        raise InvalidSystem(system)
    need_fair(system)


def is_fair(value):
    """Whether any value is a fair system."""
    return is_tree(value) and first_fault(value) is None


def space_of(system):
    """The space of a system."""
    check_system(system)
    return Space(system[1])


def unit_names(system):
    """The names of the units, in order."""
    check_system(system)
    return [unit for unit, body in system[2]]


def body_of(system, unit):
    """The body of a unit."""
    need_unit(system, unit)
    return dict(system[2])[unit]


def statements(system, unit):
    """The list of the tuples (path, statement) of all statements of a unit, ascending."""
    return walked(body_of(system, unit), ())


def calls_of(system, unit):
    """The names of the units that a unit calls, each once, in the order of the units."""
    called = [statement[1] for path, statement in statements(system, unit) if statement[0] == "call"]
    return [name for name in unit_names(system) if name in called]


def with_body(system, unit, body):
    """The system in which a unit has another body."""
    need_unit(system, unit)
    need_body(system, unit, body)
    parties, names, units = system
    return parties, names, tuple([(name, body if name == unit else old) for name, old in units])


def need_body(system, unit, body):
    """Refuses what is no body for a unit of what surely is a fair system."""
    count = sum([count_of(old) for name, old in system[2] if name != unit])
    if not is_body_beside(body, system[0], count):
        raise InvalidBody(body)
    need_no_fault(body_fault(system, unit, body))


def need_fair(system):
    """Refuses a system that is not fair."""
    need_no_fault(first_fault(system))


def need_no_fault(fault):
    """Refuses a fault, unless it is None."""
    if fault is not None:
        reason, unit, word = fault
        raise NotFair(reason, unit, word)


def need_unit(system, unit):
    """Refuses what is no fair system, and then what is not the name of one of its units."""
    if unit not in unit_names(system):
        raise InvalidUnit(unit)

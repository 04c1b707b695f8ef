"""Fair systems, and what stands in them."""

from evenpatch.bodies import walked
from evenpatch.errors import InvalidBody, InvalidSystem, InvalidUnit, NotFair
from evenpatch.faults import first_fault
from evenpatch.spaces import Space
from evenpatch.texts import is_tree


def check_system(system):
    """Refuses what is no system, and a system that is not fair."""
    if not is_tree(system):
        raise InvalidSystem(system)
    need_fair(system)


def is_fair(value):
    """Whether any value is a fair system."""
    return is_tree(value) and first_fault(value) is None


def space_of(system):
    """The space of a system."""
    check_system(system)
    return Space(system[1])


def unit_names(system):
    """The names of the units, in order."""
    check_system(system)
    return [unit for unit, body in system[2]]


def body_of(system, unit):
    """The body of a unit."""
    need_unit(system, unit)
    return dict(system[2])[unit]


def statements(system, unit):
    """The list of the tuples (path, statement) of all statements of a unit, ascending."""
    return walked(body_of(system, unit), ())


def calls_of(system, unit):
    """The names of the units that a unit calls, each once, in the order of the units."""
    called = [statement[1] for path, statement in statements(system, unit) if statement[0] == "call"]
    return [name for name in unit_names(system) if name in called]


def with_body(system, unit, body):
    """The system in which a unit has another body."""
    need_unit(system, unit)
    parties, names, units = system
    changed = (parties, names, tuple([(name, body if name == unit else old) for name, old in units]))
    if not is_tree(changed):
        raise InvalidBody(body)
    need_fair(changed)
    return changed


def need_fair(system):
    """Refuses a system that is not fair."""
    fault = first_fault(system)
    if fault is not None:
        reason, unit, word = fault
        raise NotFair(reason, unit, word)


def need_unit(system, unit):
    """Refuses what is no fair system, and then what is not the name of one of its units."""
    if unit not in unit_names(system):
        raise InvalidUnit(unit)

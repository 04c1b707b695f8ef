"""What the functions over plans ask of their arguments."""

from evenpatch.checks import check_system
from evenpatch.errors import InvalidPayoff, InvalidSide, InvalidStore, InvalidUnit, InvalidView
from evenpatch.kinds import is_row_of, is_whole, is_within
from evenpatch.parties import is_side_of
from evenpatch.webs import is_unit, is_view


def need_unit_of(system, unit):
    """Refuses what is no fair system, and then what is no unit of it."""
    check_system(system)
    if not is_unit(system, unit):
        raise InvalidUnit(unit)


def need_store(space, store):
    """Refuses what is no store of a space."""
    if not is_within(store, 0, space.never - 1):
        raise InvalidStore(store)


def need_side_of(system, side):
    """Refuses what is no side of a system's parties."""
    if not is_side_of(side, system[0]):
        raise InvalidSide(side)


def need_view(view):
    """Refuses what is no view."""
    if not is_view(view):
        raise InvalidView(view)


def need_payoff(space, payoff):
    """Refuses what is no payoff over a space."""
    if not is_payoff(payoff, space.never + 1):
        raise InvalidPayoff(payoff)


def is_payoff(value, many):
    """Whether any value is a payoff for so many outcomes."""
    return is_row_of(value, many) and all([is_whole(item) for item in value])

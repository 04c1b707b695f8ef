"""Trust: which sides force some outcomes with a chance."""

from evenpatch.asked import need_store
from evenpatch.checks import check_system
from evenpatch.duels import Duel
from evenpatch.errors import InvalidNumber, InvalidOutcomes
from evenpatch.kinds import is_within
from evenpatch.parties import is_larger, sides
from evenpatch.prospects import Prospect
from evenpatch.ratios import is_number
from evenpatch.spaces import Space
from evenpatch.webs import is_ascending
from evenpatch.workshop import Workshop


def trust(system, store, outcomes, number):
    """The ascending list of the sides that force the outcomes with a chance of at least the number."""
    check_system(system)
    space = Space(system[1])
    need_store(space, store)
    if not is_outcomes(outcomes, space.never):
        raise InvalidOutcomes(outcomes)
    if not is_number(number):
        raise InvalidNumber(number)
    payoff = [int(outcome in outcomes) for outcome in range(space.never + 1)]
    shop = Workshop(system)
    unit = shop.units[-1]
    chances = []
    for side in sides(system[0]):
        web = shop.web_of(unit, side, "S")
        chances.append((side, Duel(Prospect(web, web.first(store)).full_board(), "A", payoff).worth_there()))
    return [side for side, chance in chances if not chance.below(number)]


def least_trust(system, store, outcomes, number):
    """The ascending list of those of these sides that are larger than no other one of them."""
    found = trust(system, store, outcomes, number)
    return [side for side in found if not any([is_larger(side, other) for other in found if other != side])]


def is_outcomes(value, never):
    """Whether any value is a set of outcomes."""
    if not isinstance(value, (list, tuple)) or not all([is_within(item, 0, never) for item in value]):
        return False
    return is_ascending(value)

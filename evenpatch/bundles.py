"""Bundles of bodies: their doors, and what shows that they are let by."""

from evenpatch.asked import need_side_of
from evenpatch.bundleshop import BundleShop
from evenpatch.checks import check_system
from evenpatch.editions import doors_of, need_bodies
from evenpatch.kinds import is_row_of, is_tuple_of, is_within
from evenpatch.meets import is_text
from evenpatch.prospects import Prospect
from evenpatch.rivals import is_attack
from evenpatch.workshop import Workshop


def doors(system, bodies):
    """The list of the doors of a bundle."""
    check_system(system)
    return doors_of(system, need_bodies(system, bodies))


def bundle_paper(system, bodies, side):
    """The papers that show that a bundle is let by for a side, or the attack that shows that it is not."""
    rivals = bundle_shop(system, bodies, side).rivals(side)
    attack = first_attack(rivals)
    if attack is None:
        return "yes", [(door, one.papers()) for door, one in rivals]
    return "no", *attack


def is_bundle_paper(system, bodies, side, value):
    """Whether any value is such a tuple, perhaps with an attack from another door or store."""
    own = bundle_shop(system, bodies, side)
    rivals = own.rivals(side)
    if is_tuple_of(value, 2) and is_text(value[0], "yes"):
        return is_row_of(value[1], len(rivals)) and all([
            is_tuple_of(item, 2) and is_text(item[0], door) and one.is_papers(item[1])
            for item, (door, one) in zip(value[1], rivals)])
    if not is_tuple_of(value, 6) or not is_text(value[0], "no"):
        return False
    _, door, store, plan, payoff, answer = value
    if not isinstance(door, str) or door not in own.doors or not is_within(store, 0, own.shop.space.never - 1):
        return False
    web = own.shop.web_of(door, side, "S")
    new_web = own.web_of(door, side, "T")
    prospect = Prospect(web, web.first(store))
    return is_attack(prospect, Prospect(new_web, new_web.first(store)), plan, payoff, answer)


def bundle_shop(system, bodies, side):
    """The shop of a bundle, if system, bodies and side are right."""
    check_system(system)
    kept = need_bodies(system, bodies)
    need_side_of(system, side)
    return BundleShop(Workshop(system), kept)


def first_attack(rivals):
    """The tuple (door, store, plan, payoff, answer) of the first attack for doors, in order; None if there is none."""
    for door, one in rivals:
        attack = one.attack()
        if attack is not None:
            return door, *attack
    return None

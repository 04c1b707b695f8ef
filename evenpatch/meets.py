"""What is let by for a side, and what a body harms it at most, with papers."""

from evenpatch.asked import need_side_of
from evenpatch.checks import with_body
from evenpatch.kinds import is_row_of, is_tuple_of, is_within
from evenpatch.prospects import Prospect
from evenpatch.ratios import as_ratio
from evenpatch.rivals import is_attack, is_harm_part, rivals_between
from evenpatch.workshop import Workshop


def stands_for(system, unit, body, side):
    """Whether a body is let by for a side."""
    return rivals_of(shop_of(system, unit, body, side), unit, body, side).is_let()


def paper_for(system, unit, body, side):
    """The papers that show that a body is let by for a side, or the attack that shows that it is not."""
    return let_paper(rivals_of(shop_of(system, unit, body, side), unit, body, side))


def is_paper_for(system, unit, body, side, value):
    """Whether any value is such a tuple, perhaps with an attack from another store."""
    shop = shop_of(system, unit, body, side)
    rivals = rivals_of(shop, unit, body, side)
    if is_tuple_of(value, 2) and is_text(value[0], "yes"):
        return rivals.is_papers(value[1])
    if not is_tuple_of(value, 5) or not is_text(value[0], "no") or not is_within(value[1], 0, shop.space.never - 1):
        return False
    prospect, counter = prospects_at(shop, unit, body, side, value[1])
    return is_attack(prospect, counter, value[2], value[3], value[4])


def harm(system, unit, body, side):
    """For each store the harm of a body for a side."""
    return rivals_of(shop_of(system, unit, body, side), unit, body, side).harms()


def harm_paper(system, unit, body, side):
    """For each store the harm with what shows it."""
    return rivals_of(shop_of(system, unit, body, side), unit, body, side).harm_papers()


def is_harm_paper(system, unit, body, side, value):
    """Whether any value is a list of the harms with what shows them."""
    shop = shop_of(system, unit, body, side)
    rivals = rivals_of(shop, unit, body, side)
    if not is_row_of(value, shop.space.never):
        return False
    for store, item in enumerate(value):
        prospect, counter = prospects_at(shop, unit, body, side, store)
        if not is_harm_part(prospect, counter, item) or not rivals.is_pairs(store, item[4], as_ratio(item[0])):
            return False
    return True


def shop_of(system, unit, body, side):
    """The workshop of a system, if the body is one for the unit, and the side is one."""
    with_body(system, unit, body)
    need_side_of(system, side)
    return Workshop(system)


def rivals_of(shop, unit, body, side):
    """The sets of a published unit and the counters of a new body for it."""
    sets = shop.sets_of(unit, side, "S")
    return rivals_between(sets, shop.sets_for(unit, body, side, "T"), shop.encounters)


def prospects_at(shop, unit, body, side, store):
    """The prospects of a published unit in the view "S" and of a new body for it in the view "T", from a store."""
    web = shop.web_of(unit, side, "S")
    new_web = shop.web_by(body, side, "T")
    return Prospect(web, web.first(store)), Prospect(new_web, new_web.first(store))


def let_paper(rivals):
    """The papers of rivals that all meet, or their first attack."""
    attack = rivals.attack()
    if attack is None:
        return "yes", rivals.papers()
    return "no", *attack


def is_text(value, text):
    """Whether any value is this string."""
    return isinstance(value, str) and value == text

"""The lot of a polygon that is nearest to a lot by squares."""

from evenpatch.lots import blend, is_shares, need_lot_beside, need_lots
from evenpatch.rows import product_of
from evenpatch.squares import nearest_shares


def nearest_point(lots, lot):
    """Shares by which the lots mix to the lot of their polygon that is nearest to the lot by squares."""
    need_lots(lots)
    need_lot_beside(lots, lot)
    return nearest_shares(lots, lot)


def is_nearest_point(lots, lot, value):
    """Whether any value is a list of shares by which the lots mix to this nearest lot."""
    need_lots(lots)
    need_lot_beside(lots, lot)
    if not is_shares(value, len(lots)):
        return False
    point = blend(lots, value)
    whole = sum(point)
    size = sum(lot)
    towards = [x * whole - y * size for x, y in zip(lot, point)]
    # No lot of the list may lie farther in this direction than the point itself, all divided by its own sum.
    bound = product_of(towards, point)
    return all([product_of(towards, one) * whole <= bound * sum(one) for one in lots])

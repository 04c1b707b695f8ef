"""Corners of polygons, and shares by which lots mix to a lot."""

from evenpatch.cones import corners_of, mixing
from evenpatch.errors import Outside
from evenpatch.lots import need_lot_beside, need_lots


def corners(lots):
    """Those of the lots that are no mixture of others, ascending, each once."""
    need_lots(lots)
    return corners_of(lots)


def shares_in(lots, lot):
    """Shares by which the lots mix to the lot."""
    need_lots(lots)
    need_lot_beside(lots, lot)
    shares, payoff = mixing(lots, lot)
    if shares is None:
        raise Outside(payoff)
    return shares

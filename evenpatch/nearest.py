"""Common lots and distances of two polygons."""

from evenpatch.cones import gap, meeting
from evenpatch.errors import Apart
from evenpatch.kinds import is_row_of, is_tuple_of, is_whole
from evenpatch.lots import blend, is_shares, mean_by, need_lots, need_others
from evenpatch.ratios import as_ratio, is_number
from evenpatch.rows import is_same_way


def common(lots, others):
    """Shares for the lots and shares for the others by which both mix to one lot."""
    need_lots(lots)
    need_others(lots, others)
    shares, other_shares, payoff = meeting(lots, others)
    if shares is None:
        raise Apart(payoff)
    return shares, other_shares


def is_common(lots, others, value):
    """Whether any value is a tuple of shares by which lots and others mix to one lot."""
    need_lots(lots)
    need_others(lots, others)
    if not is_tuple_of(value, 2) or not is_shares(value[0], len(lots)) or not is_shares(value[1], len(others)):
        return False
    return is_same_way(blend(lots, value[0]), blend(others, value[1]))


def distance(lots, others):
    """The distance of two polygons, with shares that have it and a payoff that shows that there is no less."""
    need_lots(lots)
    need_others(lots, others)
    return gap(lots, others)


def is_distance(lots, others, value):
    """Whether any value is a distance with shares that have it and a payoff that shows that there is no less."""
    need_lots(lots)
    need_others(lots, others)
    if not is_tuple_of(value, 4) or not is_number(value[0]):
        return False
    if not is_shares(value[1], len(lots)) or not is_shares(value[2], len(others)):
        return False
    number = as_ratio(value[0])
    if not is_apart_by(blend(lots, value[1]), blend(others, value[2]), number):
        return False
    return is_parting(lots, others, number, value[3])


def is_apart_by(parts, others, number):
    """Whether the lots of two lists of integers have this distance."""
    whole = sum(parts)
    other_whole = sum(others)
    total = sum([max(0, part * other_whole - other * whole) for part, other in zip(parts, others)])
    return total * number.bottom == number.top * whole * other_whole


def is_parting(lots, others, number, payoff):
    """Whether any value is a payoff that shows that no mixtures have a lesser distance than this number."""
    if not is_row_of(payoff, len(lots[0])) or not all([is_whole(item) and item >= 0 for item in payoff]):
        return False
    greatest = max(payoff)
    if greatest == 0:
        return False
    low = least([mean_by(lot, payoff) for lot in lots])
    high = -least([-mean_by(other, payoff) for other in others])
    return low - high == number * greatest


def least(ratios):
    """The least one of some Ratios."""
    found = ratios[0]
    for ratio in ratios:
        if ratio.below(found):
            found = ratio
    return found

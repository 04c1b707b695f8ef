"""Lots, their means and their mixtures."""

from math import lcm

from evenpatch.errors import InvalidBlend, InvalidLot, InvalidLots, InvalidNumber, InvalidPayoff
from evenpatch.kinds import is_row_of, is_whole, is_within
from evenpatch.ratios import Ratio, as_ratio, is_number, with_one_bottom
from evenpatch.rows import common_divisor, shortened

FEWEST = 3
MOST = 7
MOST_LOTS = 64


def is_lot(many, value):
    """Whether any value is a lot on so many outcomes."""
    need_many(many)
    return is_lot_of(many, value)


def sure(many, outcome):
    """The lot in which one outcome has the share 1."""
    need_many(many)
    if not is_within(outcome, 0, many - 1):
        raise InvalidNumber(outcome)
    return tuple([int(at == outcome) for at in range(many)])


def mean(lot, payoff):
    """The mean of a list of numbers, one for each outcome, by a lot."""
    need_lot(lot)
    if not is_row_of(payoff, len(lot)) or not all([is_number(item) for item in payoff]):
        raise InvalidPayoff(payoff)
    return mean_by(lot, payoff)


def mixed(lots, weights):
    """The mixture of lots by weights, the lot of each outcome's shares."""
    need_lots(lots)
    if not is_weights(weights, len(lots)):
        raise InvalidBlend(weights)
    return tuple(shortened(blend(lots, weights)))


def is_lot_of(many, value):
    """Whether any value is a lot on so many outcomes, a number that is not asked here."""
    if not isinstance(value, tuple) or len(value) != many:
        return False
    return all([is_whole(item) and item >= 0 for item in value]) and common_divisor(value) == 1


def need_many(many):
    """Refuses what is no number of outcomes."""
    if not is_within(many, FEWEST, MOST):
        raise InvalidNumber(many)


def need_lot(lot):
    """Refuses what is no lot on some number of outcomes."""
    if not isinstance(lot, tuple) or not FEWEST <= len(lot) <= MOST or not is_lot_of(len(lot), lot):
        raise InvalidLot(lot)


def need_lots(lots):
    """Refuses what is no list of lots with equally many integers."""
    if not isinstance(lots, (list, tuple)) or len(lots) == 0 or not isinstance(lots[0], tuple):
        raise InvalidLots(lots)
    many = len(lots[0])
    if not FEWEST <= many <= MOST or not is_lots_of(many, lots):
        raise InvalidLots(lots)


def need_others(lots, others):
    """Refuses what is no list of lots with as many integers as those of the list `lots`."""
    if not is_lots_of(len(lots[0]), others):
        raise InvalidLots(others)


def need_lot_beside(lots, lot):
    """Refuses what is no lot with as many integers as those of the list `lots`."""
    if not is_lot_of(len(lots[0]), lot):
        raise InvalidLot(lot)


def is_lots_of(many, value):
    """Whether any value is a list of lots on so many outcomes."""
    if not isinstance(value, (list, tuple)) or not 1 <= len(value) <= MOST_LOTS:
        return False
    return all([is_lot_of(many, lot) for lot in value])


def is_weights(value, many):
    """Whether any value is a list of weights for so many lots."""
    if not is_row_of(value, many) or not all([is_number(item) for item in value]):
        return False
    signs = [as_ratio(item).top for item in value]
    return min(signs) >= 0 and max(signs) > 0


def is_shares(value, many):
    """Whether any value is a list of shares for so many lots."""
    if not is_weights(value, many):
        return False
    tops, bottom = with_one_bottom(value)
    return sum(tops) == bottom


def mean_by(lot, payoff):
    """The mean of numbers by a lot, neither of them asked."""
    total = Ratio(0)
    for part, item in zip(lot, payoff):
        total = total + as_ratio(item) * part
    return total.over(sum(lot))


def blend(lots, weights):
    """Integers that are to each other as the shares of the mixture of lots by weights."""
    tops, _ = with_one_bottom(weights)
    whole = 1
    for lot in lots:
        whole = lcm(whole, sum(lot))
    totals = [0] * len(lots[0])
    for top, lot in zip(tops, lots):
        if top != 0:
            factor = top * (whole // sum(lot))
            totals = [total + factor * part for total, part in zip(totals, lot)]
    return totals

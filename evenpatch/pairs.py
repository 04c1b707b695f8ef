"""Two sets of lots: whether they meet, and how far apart they are."""

from evenpatch.cones import gap, meeting
from evenpatch.ratios import Ratio

FEW_PAIRS = 16
MOST_KEPT = 4000


class Encounters:
    """What is known of pairs of sets, tuples of lots, each pair asked once; `known` are the last Rivals of them."""

    def __init__(self):
        self.known = []
        self._payoffs = {}
        self._gaps = {}

    def parting_payoff(self, lots, others):
        """The payoff that parts two sets, None if they meet."""
        key = (lots, others)
        if key not in self._payoffs:
            if len(self._payoffs) >= MOST_KEPT:
                self._payoffs.clear()
            self._payoffs[key] = met(lots, others)[2]
        return self._payoffs[key]

    def gap(self, lots, others):
        """The tuple (number, payoff) of the distance of two sets."""
        key = (lots, others)
        if key not in self._gaps:
            if len(self._gaps) >= MOST_KEPT:
                self._gaps.clear()
            number, _, _, payoff = gap_of(lots, others)
            self._gaps[key] = (number, payoff)
        return self._gaps[key]


def met(lots, others):
    """The tuple (shares, shares, None) by which two sets meet, or (None, None, payoff) if they do not."""
    at, other_at = equal_places(lots, others)
    if at is not None:
        return only(at, len(lots)), only(other_at, len(others)), None
    payoff = parting(lots, others)
    if payoff is not None:
        return None, None, payoff
    return meeting(lots, others)


def gap_of(lots, others):
    """The tuple (number, shares, shares, payoff) of the distance of two sets."""
    at, other_at = equal_places(lots, others)
    if at is not None:
        return Ratio(0), only(at, len(lots)), only(other_at, len(others)), [1] * len(lots[0])
    if len(lots) == 1 and len(others) == 1:
        ahead = differences(lots[0], others[0])
        return apart(lots[0], others[0]), [Ratio(1)], [Ratio(1)], [int(part > 0) for part in ahead]
    return gap(lots, others)


def near_places(lots, others, number):
    """The indices of two lots, one of each set, whose distance is not above a number, if a quick look finds them."""
    if len(lots) * len(others) > FEW_PAIRS:
        at, other_at = equal_places(lots, others)
        if at is not None and number.top >= 0:
            return at, other_at
    else:
        for at, lot in enumerate(lots):
            for other_at, other in enumerate(others):
                if not number.below(apart(lot, other)):
                    return at, other_at
    return None, None


def near_shares(lots, others, number):
    """Shares by which two sets mix to lots whose distance, known to be not above a number, is so."""
    at, other_at = near_places(lots, others, number)
    if at is not None:
        return only(at, len(lots)), only(other_at, len(others))
    _, shares, other_shares, _ = gap(lots, others)
    return shares, other_shares


def apart(lot, other):
    """The distance of two lots."""
    return Ratio(sum([max(0, part) for part in differences(lot, other)]), sum(lot) * sum(other))


def differences(lot, other):
    """What the shares of a lot have above those of another one, each multiplied by the sums of both."""
    whole = sum(lot)
    other_whole = sum(other)
    return [part * other_whole - other_part * whole for part, other_part in zip(lot, other)]


def equal_places(lots, others):
    """The indices of a lot that stands in both sets, or two None."""
    if len(lots) == 1 and len(others) == 1:
        return (0, 0) if lots[0] == others[0] else (None, None)
    places = {other: at for at, other in enumerate(others)}
    for at, lot in enumerate(lots):
        if lot in places:
            return at, places[lot]
    return None, None


def only(at, many):
    """The shares, so many, that take one lot alone."""
    return [Ratio(int(at == other)) for other in range(many)]


def parting(lots, others):
    """A payoff of one outcome that has a greater mean by each of the lots than by each of the others, or None."""
    many = len(lots[0])
    for outcome in range(many):
        if is_above(lots, others, outcome):
            return [int(at == outcome) for at in range(many)]
        if is_above(others, lots, outcome):
            return [-int(at == outcome) for at in range(many)]
    return None


def is_above(lots, others, outcome):
    """Whether each of the lots gives an outcome a greater share than each of the others."""
    top, whole = lots[0][outcome], sum(lots[0])
    for lot in lots:
        if lot[outcome] * whole < top * sum(lot):
            top, whole = lot[outcome], sum(lot)
    return all([other[outcome] * whole < top * sum(other) for other in others])

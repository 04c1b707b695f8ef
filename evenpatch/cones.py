"""Mixtures of any number of lots: what the arguments are is not asked here."""

from evenpatch.ratios import Ratio
from evenpatch.rows import product_of, shortened
from evenpatch.simplex import Tableau, weighed


def corners_of(lots):
    """The corners of the polygon of some lots, ascending.

    Those that lie farthest in the direction of an outcome, or in the opposite one, are corners. Each other lot is
    either mixed of corners that are known, or parted from them by a payoff; the lot that lies farthest in the direction
    of this payoff is then a corner, too.
    """
    left = sorted(set(lots))
    if len(left) < 3:
        return left
    used = [at for at in range(len(left[0])) if max([lot[at] for lot in left]) > 0]
    if len(used) == 3:
        return sorted(rim_of(left, used))
    found = []
    for at in used:
        for sign in (1, -1):
            corner = outermost(left, at, sign)
            if corner not in found:
                found.append(corner)
        if len(used) == 2:
            return sorted(found)
    left = [lot for lot in left if lot not in found]
    while left:
        payoff = mixing(found, left[-1])[1]
        if payoff is None:
            left.pop()
        else:
            corner = farthest(left, payoff)
            found.append(corner)
            left = [lot for lot in left if lot != corner]
    return sorted(found)


def rim_of(lots, used):
    """The corners of the polygon of different lots that use three outcomes alone, one behind another around it."""
    places = [[lot[at] for at in used] for lot in lots]
    first = lots.index(outermost(lots, used[0], 1))
    found = [first]
    while True:
        last = places[found[-1]]
        best = None
        for at, place in enumerate(places):
            if at != found[-1] and (best is None or is_outer(last, places[best], place)):
                best = at
        if best == first:
            return [lots[at] for at in found]
        found.append(best)


def is_outer(last, place, other):
    """Whether, as seen from a corner, another place lies on the outer side of a place, or behind it in one line."""
    x, y, z = last
    side = (x * (place[1] * other[2] - place[2] * other[1]) + y * (place[2] * other[0] - place[0] * other[2])
            + z * (place[0] * other[1] - place[1] * other[0]))
    if side != 0:
        return side < 0
    return is_longer(last, other, place)


def is_longer(last, place, other):
    """Whether, of two places in one line with a corner and on the same side of it, the first one is farther from it."""
    whole = sum(last)
    for at, part in enumerate(last):
        step = abs(place[at] * whole - part * sum(place))
        other_step = abs(other[at] * whole - part * sum(other))
        if step * sum(other) != other_step * sum(place):
            return step * sum(other) > other_step * sum(place)
    return False


def outermost(lots, at, sign):
    """The corner with the greatest share of an outcome, for the sign -1 the least one, and then the greatest ones."""
    best = lots[0]
    whole = sum(best)
    for lot in lots[1:]:
        other_whole = sum(lot)
        ahead = (lot[at] * whole - best[at] * other_whole) * sign
        if ahead > 0 or (ahead == 0 and is_farther(lot, best, [0] * len(lot))):
            best, whole = lot, other_whole
    return best


def farthest(lots, payoff):
    """The corner of the polygon of some lots that has the greatest mean of a payoff, and then the greatest shares."""
    best = lots[0]
    for lot in lots[1:]:
        if is_farther(lot, best, payoff):
            best = lot
    return best


def is_farther(lot, other, payoff):
    """Whether a lot has a greater mean of a payoff than another one, or the same one and then greater shares."""
    whole = sum(lot)
    other_whole = sum(other)
    ahead = product_of(lot, payoff) * other_whole - product_of(other, payoff) * whole
    if ahead != 0:
        return ahead > 0
    for part, other_part in zip(lot, other):
        if part * other_whole != other_part * whole:
            return part * other_whole > other_part * whole
    return False


def mixing(lots, lot):
    """A tuple (shares, None) of shares by which lots mix to a lot, or (None, payoff) if there are none."""
    weights, scale, payoff = weighed(lots, lot)
    if weights is None:
        return None, payoff
    return shares_by(weights, lots, scale * sum(lot)), None


def meeting(lots, others):
    """A tuple (shares, shares, None) by which lots and others mix to one lot, or (None, None, payoff)."""
    columns = [[*lot, sum(lot)] for lot in lots]
    for other in others:
        columns.append([-item for item in other] + [0])
    weights, scale, payoff = weighed(columns, [0] * len(lots[0]) + [1])
    if weights is None:
        return None, None, shortened([-item for item in payoff[:-1]])
    many = len(lots)
    return shares_by(weights[:many], lots, scale), shares_by(weights[many:], others, scale), None


def gap(lots, others):
    """The tuple (number, shares, shares, payoff) of the distance of lots and others."""
    many = len(lots[0])
    columns = [[*lot, sum(lot), 0] for lot in lots]
    for other in others:
        columns.append([-item for item in other] + [0, sum(other)])
    costs = [0] * len(columns)
    for at in range(many):
        unit = [int(at == other) for other in range(many + 2)]
        columns.append([-item for item in unit])
        columns.append(unit)
        costs.extend([1, 0])
    table = begun(columns, costs, many, len(lots), len(others))
    table.run(columns, costs)
    weights = table.weights(len(lots) + len(others))
    shares = shares_by(weights[:len(lots)], lots, table.scale)
    other_shares = shares_by(weights[len(lots):], others, table.scale)
    row = table.rows[0]
    if row[-1] == 0:
        return Ratio(0), shares, other_shares, [1] * many
    return Ratio(-row[-1], table.scale), shares, other_shares, shortened(row[:many])


def begun(columns, costs, many, first, second):
    """The tableau of a distance, begun at the first one of the lots and the first one of the others."""
    table = Tableau([0] * many + [1, 1], 0)
    put(table, many + 1, 0, columns, costs)
    put(table, many + 2, first, columns, costs)
    for at in range(many):
        if table.rows[at + 1][-1] < 0:
            put(table, at + 1, first + second + 2 * at, columns, costs)
    return table


def put(table, at, name, columns, costs):
    """Lets the column of this number take a row of the tableau."""
    table.enter(at, name, table.direction(columns[name], costs[name]))


def shares_by(weights, lots, whole):
    """The shares that belong to weights of the integers of lots."""
    return [Ratio(weight * sum(lot), whole) for weight, lot in zip(weights, lots)]


def is_mixed(lots, lot):
    """Whether lots mix to a lot; shares that are too great or too small for all lots tell it at once."""
    whole = sum(lot)
    for at, part in enumerate(lot):
        ahead = [part * sum(one) - one[at] * whole for one in lots]
        if min(ahead) > 0 or max(ahead) < 0:
            return False
    return mixing(lots, lot)[0] is not None

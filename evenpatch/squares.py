"""Nearest points by squares in polygons of any number of lots: what the arguments are is not asked here."""

from evenpatch.ratios import Ratio
from evenpatch.rows import product_of, shortened


def nearest_shares(lots, lot):
    """The shares by which the lots mix to the lot that is nearest by squares.

    An arrow leads from the lot of the argument to one of the lots: integers, to be divided by a size. The arrows of a
    *corral* are so few that just one mixture of them, with weights below 0 too, is nearest; all weights of a corral are
    above 0 there. Each round adds the arrow that lies farthest back and drops those that then lose their weight, so
    that the nearest point of the corral comes nearer each time and no corral comes again.
    """
    whole = sum(lot)
    sizes = [sum(one) * whole for one in lots]
    arrows = [[x * whole - y * sum(one) for x, y in zip(one, lot)] for one in lots]
    corral = [0]
    weights = [Ratio(1)]
    while True:
        point, size = point_of(arrows, sizes, corral)
        at = farthest_back(arrows, sizes, point)
        if product_of(point, arrows[at]) * size >= product_of(point, point) * sizes[at]:
            return spread(corral, weights, len(lots))
        corral, weights = settled_corral(arrows, sizes, [*corral, at], [*weights, Ratio(0)])


def settled_corral(arrows, sizes, corral, weights):
    """The corral that is left, and its weights, on the way from a point of a corral towards its nearest one."""
    while True:
        aims = aims_of(arrows, sizes, corral)
        if all([aim.top > 0 for aim in aims]):
            return corral, aims
        step = Ratio(1)
        for weight, aim in zip(weights, aims):
            if aim.top <= 0 and weight.over(weight - aim).below(step):
                step = weight.over(weight - aim)
        weights = [weight + (aim - weight) * step for weight, aim in zip(weights, aims)]
        corral = [at for at, weight in zip(corral, weights) if weight.top > 0]
        weights = [weight for weight in weights if weight.top > 0]


def aims_of(arrows, sizes, corral):
    """The weights, perhaps below 0, by which the arrows of a corral mix to the nearest point of their plane."""
    parts = [part * sizes[at] for part, at in zip(parts_of(arrows, sizes, corral), corral)]
    whole = sum(parts)
    return [Ratio(part, whole) for part in parts]


def point_of(arrows, sizes, corral):
    """The nearest point of a corral's plane: integers, and the size by which they are to be divided."""
    parts = parts_of(arrows, sizes, corral)
    point = [0] * len(arrows[0])
    size = 0
    for part, at in zip(parts, corral):
        point = [total + part * item for total, item in zip(point, arrows[at])]
        size = size + part * sizes[at]
    return point, size


def parts_of(arrows, sizes, corral):
    """For each arrow of a corral an integer that is to the others as its weight in the nearest point by its size."""
    rows = []
    for at in corral:
        row = [sizes[at] * sizes[other] + product_of(arrows[at], arrows[other]) for other in corral]
        rows.append([*row, sizes[at]])
    return shortened(solved(rows))


def solved(rows):
    """Integers that are, divided by one integer above 0, the solution of the equations of the rows.

    The rows without their last items are a matrix whose leading determinants are all above 0, so that no row has to
    change its place. Each division by `scale` is without a remainder.
    """
    scale = 1
    for at in range(len(rows)):
        turned = rows[at]
        pivot = turned[at]
        rows = [row if other == at else [(x * pivot - row[at] * y) // scale for x, y in zip(row, turned)]
                for other, row in enumerate(rows)]
        scale = pivot
    return [row[-1] for row in rows]


def farthest_back(arrows, sizes, point):
    """The index of the arrow that has the least product with a point."""
    best = 0
    least = product_of(point, arrows[0])
    for at in range(1, len(arrows)):
        found = product_of(point, arrows[at])
        if found * sizes[best] < least * sizes[at]:
            best = at
            least = found
    return best


def spread(corral, weights, many):
    """The list of so many Ratios that has the weights at the indices of a corral, and 0 elsewhere."""
    shares = [Ratio(0)] * many
    for at, weight in zip(corral, weights):
        shares[at] = weight
    return shares

"""One wheel of nature for a unit: a lot in all polygons of some sides, or payoffs that show that there is none."""

from evenpatch.asked import is_payoff, need_store, need_unit_of
from evenpatch.cones import mixing
from evenpatch.errors import InvalidPromised, TooMany
from evenpatch.kinds import is_row_of, is_tuple_of
from evenpatch.lots import blend, is_lot_of, is_shares, mean_by
from evenpatch.meets import is_text
from evenpatch.nearest import least
from evenpatch.ratios import Ratio
from evenpatch.registry import is_promised
from evenpatch.rows import is_same_way, product_of, shortened
from evenpatch.simplex import weighed
from evenpatch.workshop import Workshop

MOST_SETS = 32


def one_lot(system, unit, store, promised):
    """A lot in the polygons of all sets of some sides with the shares by which they mix to it, or payoffs instead."""
    families = families_there(system, unit, store, promised)
    hunt = Hunt([lots for family in families for lots in family])
    hunt.run()
    if hunt.lot is None:
        return "no", split_as(hunt.payoffs(), families)
    return "yes", hunt.lot, split_as(hunt.shares, families)


def is_one_lot(system, unit, store, promised, value):
    """Whether any value is such a tuple."""
    families = families_there(system, unit, store, promised)
    many = len(families[0][0][0])
    if is_tuple_of(value, 3) and is_text(value[0], "yes"):
        _, lot, shares = value
        if not is_lot_of(many, lot) or not is_split_as(shares, families):
            return False
        pairs = paired(families, shares)
        return all([is_shares(one, len(lots)) and is_same_way(blend(lots, one), lot) for lots, one in pairs])
    if not is_tuple_of(value, 2) or not is_text(value[0], "no") or not is_split_as(value[1], families):
        return False
    pairs = paired(families, value[1])
    if not all([is_payoff(payoff, many) for lots, payoff in pairs]):
        return False
    if not all([sum([payoff[at] for lots, payoff in pairs]) == 0 for at in range(many)]):
        return False
    total = Ratio(0)
    for lots, payoff in pairs:
        total = total + least([mean_by(lot, payoff) for lot in lots])
    return total.top > 0


def families_there(system, unit, store, promised):
    """For each promised side the list of the sets of a unit at a store."""
    need_unit_of(system, unit)
    shop = Workshop(system)
    need_store(shop.space, store)
    if not is_promised(promised, system[0]):
        raise InvalidPromised(promised)
    found = []
    for side in promised:
        found.append([lots for lots, plan in shop.sets_of(unit, side, "S")[store]])
    count = sum([len(family) for family in found])
    if count > MOST_SETS:
        raise TooMany(count)
    return found


def split_as(row, families):
    """A list of items, one for each set of all sides, as a list of lists, one for each side."""
    found = []
    at = 0
    for family in families:
        found.append(row[at:at + len(family)])
        at = at + len(family)
    return found


def is_split_as(value, families):
    """Whether any value has for each side a list of one item for each set."""
    if not is_row_of(value, len(families)):
        return False
    return all([is_row_of(item, len(family)) for item, family in zip(value, families)])


def paired(families, rows):
    """The list of the tuples (set, item) of all sides."""
    found = []
    for family, row in zip(families, rows):
        found.extend(list(zip(family, row)))
    return found


class Hunt:
    """Seeks a lot in all polygons of some sets.

    Each cut is a payoff with means from 0 on by all lots of its set. A lot that keeps all cuts that are known either
    lies in all polygons, or some payoff parts it from one, which is a further cut. There are finitely many cuts, and in
    the end there is such a lot, or the cuts, weighed, sum to a payoff below 0 everywhere.
    """

    def __init__(self, sets):
        self.lot = None
        self.shares = []
        self._groups = sets
        self._many = len(sets[0][0])
        self._cuts = []
        self._weights = None

    def run(self):
        """Seeks until there is a lot or there are weights that show that there is none."""
        while self._weights is None and self.lot is None:
            columns = [[-item for item in cut] for _, cut in self._cuts]
            for at in range(self._many):
                columns.append([-int(at == other) for other in range(self._many)])
            weights, _, point = weighed(columns, [1] * self._many)
            if weights is None:
                self._try(tuple(shortened(point)))
            else:
                self._weights = weights[:len(self._cuts)]

    def payoffs(self):
        """For each set a payoff, all of which sum to 0, with least means that sum to more than 0."""
        found = [[0] * self._many for lots in self._groups]
        for (place, cut), weight in zip(self._cuts, self._weights):
            found[place] = [item + weight * more for item, more in zip(found[place], cut)]
        for at in range(self._many):
            found[0][at] = found[0][at] - sum([payoff[at] for payoff in found])
        common = shortened([item for payoff in found for item in payoff])
        return [common[at * self._many:(at + 1) * self._many] for at in range(len(found))]

    def _try(self, lot):
        """Keeps a lot that lies in all polygons, or the cuts that part it from some."""
        found = []
        is_parted = False
        for place, lots in enumerate(self._groups):
            shares, payoff = mixing(lots, lot)
            found.append(shares)
            if shares is None:
                is_parted = True
                self._cuts.append((place, cut_by(lots, payoff)))
        if not is_parted:
            self.lot = lot
            self.shares = found


def cut_by(lots, payoff):
    """The cut for a payoff that is greater by a lot outside than by the lots of a set."""
    best = lots[0]
    for lot in lots[1:]:
        if product_of(lot, payoff) * sum(best) > product_of(best, payoff) * sum(lot):
            best = lot
    top = product_of(best, payoff)
    return shortened([top - item * sum(best) for item in payoff])

"""Plain computations over webs: all plans, all responses, and what comes of them, by Python's own fractions."""

from fractions import Fraction
from itertools import product

from helpers import lot_from

from evenpatch.checks import calls_of, unit_names
from evenpatch.errors import PactError
from evenpatch.plans import families
from evenpatch.webs import web

OWN = {"S": "A", "T": "B"}


def web_over(system, unit, side, view):
    """The web of a unit over the families of the units that it calls."""
    told = {name: families(system, name, side, view) for name in calls_of(system, unit)}
    return web(system, unit, side, told, view)


def solved(rows, moves, never):
    """The chances of all outcomes from each of the rows, of which each has one move: a dict from rows to lists.

    Rows from which no outcome can be come to go to never; all else is solved by Gauss.
    """
    good = set()
    while True:
        more = {row for row in rows if row not in good
                and any(isinstance(place, int) or place in good for place, _ in moves[row])}
        if not more:
            break
        good |= more
    order = [row for row in rows if row in good]
    at = {row: k for k, row in enumerate(order)}
    table = []
    for row in order:
        line = [Fraction(0)] * (len(order) + never + 1)
        line[at[row]] = Fraction(1)
        whole = sum(weight for _, weight in moves[row])
        for place, weight in moves[row]:
            if isinstance(place, int):
                line[len(order) + place] += Fraction(weight, whole)
            elif place in good:
                line[at[place]] -= Fraction(weight, whole)
            else:
                line[len(order) + never] += Fraction(weight, whole)
        table.append(line)
    for k in range(len(order)):
        pivot = next(j for j in range(k, len(order)) if table[j][k] != 0)
        table[k], table[pivot] = table[pivot], table[k]
        table[k] = [item / table[k][k] for item in table[k]]
        for j in range(len(order)):
            if j != k and table[j][k] != 0:
                factor = table[j][k]
                table[j] = [x - factor * y for x, y in zip(table[j], table[k])]
    found = {row: [Fraction(int(k == never)) for k in range(never + 1)] for row in rows}
    for row in order:
        found[row] = table[at[row]][len(order):]
    return found


class Plain:
    """All plans from a place of a web, and all responses to them."""

    def __init__(self, net, place):
        self.net = net
        self.place = place
        self.rows = net.rows_from(place)
        self.moves = {row: net.moves(row) for row in self.rows}
        mine = OWN[net.view]
        self.own = [row for row in self.rows if net.owner(row) == mine and len(self.moves[row]) > 1]
        self.free = [row for row in self.rows
                     if net.owner(row) not in (mine, "wheel") and len(self.moves[row]) > 1]

    def plans(self):
        return list(product(*[range(len(self.moves[row])) for row in self.own]))

    def count(self):
        total = 1
        for row in self.own + self.free:
            total *= len(self.moves[row])
        return total

    def met_by(self, plan):
        picks = dict(zip(self.own, plan))
        found = [] if isinstance(self.place, int) else [self.place]
        for row in found:
            moves = [self.moves[row][picks[row]]] if row in picks else self.moves[row]
            found.extend(sorted({place for move in moves for place, _ in move if not isinstance(place, int)}
                                - set(found)))
        return found

    def responses(self, plan):
        met = set(self.met_by(plan))
        free = [row for row in self.free if row in met]
        return [dict(zip(free, one)) for one in product(*[range(len(self.moves[row])) for row in free])]

    def lot(self, plan, response):
        """The lot of a plan and a response, a dict from rows to indices."""
        if isinstance(self.place, int):
            return tuple(int(k == self.place) for k in range(self.net.never + 1))
        picks = {**dict(zip(self.own, plan)), **response}
        found = [self.place]
        taken = {}
        for row in found:
            taken[row] = self.moves[row][picks.get(row, 0)]
            found.extend(sorted({place for place, _ in taken[row] if not isinstance(place, int)} - set(found)))
        chances = solved(found, taken, self.net.never)[self.place]
        whole = 1
        for chance in chances:
            whole *= chance.denominator
        return lot_from([int(chance * whole) for chance in chances])

    def lots(self, plan):
        return sorted({self.lot(plan, response) for response in self.responses(plan)})

    def likes(self):
        """Plans of which no two are alike."""
        found = {}
        for plan in self.plans():
            met = frozenset(self.met_by(plan))
            found.setdefault((met, tuple(sorted((row, index) for row, index in zip(self.own, plan) if row in met))), plan)
        return list(found.values())


def quiet(call, *args):
    """What a call returns, or None if it raises an error of the package."""
    try:
        return call(*args)
    except PactError:
        return None


def last(system):
    return unit_names(system)[-1]

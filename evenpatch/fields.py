"""Fields: what the rows of a frame bring to one who leads, and their ranks."""

from math import lcm

from evenpatch.knots import Knot, knots_of
from evenpatch.packs import best_pack, joined_packs, mean_pack, nought, sign_of, weighed_packs

MOST_FIELDS = 500


class FieldBook:
    """The fields of the editions of a registry, each made once."""

    def __init__(self, registry):
        self._registry = registry
        self._fields = {}

    def web_at(self, unit, number, side, view):
        """The web of an edition for a side and a view."""
        return self._registry.web_at(unit, number, side, view)

    def field(self, unit, number, side, view, ends):
        """The field of an edition by the packs of a tuple, one for each outcome."""
        key = (unit, number, side, view, ends)
        if key not in self._fields:
            if len(self._fields) >= MOST_FIELDS:
                self._fields.clear()
            self._fields[key] = Field(self.web_at(unit, number, side, view), ends)
        return self._fields[key]


class Field:
    """What the rows of a web bring, for the side in the view "S", for its enemy in the view "T".

    `packs` has the packs of the rows and outcomes, all counted from never's, which so has noughts. `debts` has packs
    of one number, the opposite of the rank. Of both the leader wants much. Rows are worked out when they are needed.
    """

    def __init__(self, web, ends):
        self.web = web
        self.packs = {outcome: pack for outcome, pack in enumerate(ends)}
        self.debts = {outcome: nought(1) for outcome in range(len(ends))}
        self._leader = "A" if web.view == "S" else "B"

    def need(self, place):
        """Works out all rows of the frame from a place."""
        if place in self.packs:
            return
        rows = [row for row in self.web.frame_rows(place) if row not in self.packs]
        numbers = {row: at for at, row in enumerate(rows)}
        ahead = []
        for row in rows:
            targets = [target for move in self.web.moves_of(row) for target, _ in move]
            ahead.append([numbers[target] for target in targets if target in numbers])
        for knot in knots_of(ahead):
            if len(knot) > 1 or knot[0] in ahead[knot[0]]:
                self._settle_knot([rows[at] for at in sorted(knot)])
            else:
                self._settle_row(rows[knot[0]])

    def handed_up(self, row):
        """The tuple of packs by which the frame above goes while this one waits at the row of a call."""
        self.need(row)
        found = []
        for outcome in range(self.web.never + 1):
            place = self.web.behind(row, outcome)
            found.append(joined_packs(self.packs[place], self.debts[place]))
        return tuple(found)

    def best_index(self, row):
        """The index of the first move of a row that keeps what it brings, with the least rank of all that keep it."""
        self.need(row)
        moves = self.web.moves_of(row)
        kept = [at for at, move in enumerate(moves) if mean_pack(move, self.packs) == self.packs[row]]
        debts = [mean_pack(moves[at], self.debts) for at in kept]
        return kept[debts.index(best_pack(debts, 1))]

    def _sign(self, row):
        owner = self.web.owner_of(row)
        if owner == "wheel":
            return 0
        return 1 if owner == self._leader else -1

    def _settle_row(self, row):
        """Works out a row that leads to known places alone."""
        sign = self._sign(row)
        moves = self.web.moves_of(row)
        means = [mean_pack(move, self.packs) for move in moves]
        best = best_pack(means, sign)
        debts = [mean_pack(move, self.debts) for move, pack in zip(moves, means) if pack == best]
        self.packs[row] = best
        self.debts[row] = with_cost(best_pack(debts, sign), best)

    def _settle_knot(self, rows):
        """Works out rows that lead to one another, and else to known places."""
        signs = [self._sign(row) for row in rows]
        moves = [self.web.moves_of(row) for row in rows]
        knot = knot_over(rows, signs, moves, self.packs, [0] * len(rows), [0] * len(rows))
        knot.solve()
        kept = [knot.keeping(at) for at in range(len(rows))]
        moves = [[row_moves[at] for at in indices] for row_moves, indices in zip(moves, kept)]
        picks = [indices.index(pick) for indices, pick in zip(kept, knot.picks)]
        costs = [int(sign_of(pack) > 0) for pack in knot.brought]
        ranking = knot_over(rows, signs, moves, self.debts, picks, costs)
        ranking.solve()
        for row, pack, debt in zip(rows, knot.brought, ranking.brought):
            self.packs[row] = pack
            self.debts[row] = debt


def with_cost(debt, worth):
    """The debt of a row that brings a pack, with that behind its move: passing it costs 1 if it is above never."""
    if sign_of(worth) > 0:
        return debt[0], debt[1] - debt[0]
    return debt


def knot_over(rows, signs, moves, packs, picks, costs):
    """The knot of some rows with their moves, by the packs of other places to which they lead, and costs of rows."""
    numbers = {row: at for at, row in enumerate(rows)}
    bottom = 1
    many = len(packs[0]) - 1
    for row_moves in moves:
        for move in row_moves:
            for place, _ in move:
                if place not in numbers:
                    bottom = lcm(bottom, packs[place][0])
    laid = []
    for row_moves, cost in zip(moves, costs):
        laid.append([laid_move(move, numbers, packs, bottom, many, cost) for move in row_moves])
    return Knot(signs, laid, picks, bottom)


def laid_move(move, numbers, packs, bottom, many, cost):
    """A move as a knot takes it, less a cost."""
    whole = sum([weight for _, weight in move])
    inner = {numbers[place]: weight for place, weight in move if place in numbers}
    outer = [-cost * whole * bottom] * many
    leaving = [(place, weight) for place, weight in move if place not in numbers]
    if leaving:
        _, size, tops = weighed_packs(leaving, packs)
        outer = [top + more * (bottom // size) for top, more in zip(outer, tops)]
    return whole, inner, outer

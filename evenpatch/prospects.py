"""Prospects: what comes of all plans and all responses from a place of a web."""

from evenpatch.boards import Board, layout_at
from evenpatch.chains import Chain, shortest
from evenpatch.cones import corners_of, is_mixed
from evenpatch.errors import TooGreat, TooMany
from evenpatch.kinds import is_tuple_of, is_within
from evenpatch.rows import shortened

MOST_RESPONSES = 256


class Prospect:
    """Plans from a place of a web; in the view "S" they are the side's, in the view "T" those of its enemy.

    Picks are dicts from rows, by their numbers, to indices of moves.
    """

    def __init__(self, web, place):
        owner = "A" if web.view == "S" else "B"
        self.layout = layout_at(web, place)
        self.many = web.never + 1
        self.own = [row for row in self.layout.met if web.owner_of(self.layout.row_by[row]) == owner]
        self._is_own = {row: True for row in self.own}
        self._web = web
        self._place = place

    def full_board(self):
        """The board of all rows met from the place."""
        return Board(self._web, self._place)

    def is_plan(self, value):
        """Whether any value is a plan."""
        if not is_tuple_of(value, len(self.own)):
            return False
        return all([is_within(item, 0, len(self.layout.short[row]) - 1) for item, row in zip(value, self.own)])

    def plan_of(self, picks):
        """The plan with these picks, and the first move where it has none."""
        return tuple([picks.get(row, 0) for row in self.own])

    def picks_of(self, plan):
        """The picks of a plan."""
        return {row: index for row, index in zip(self.own, plan)}

    def plans(self):
        """The list of the picks of plans, of alike ones just one; None if they have too many responses.

        Of equal moves the first one stands for all of them, so each plan is counted as often as there are others of
        which just the same comes.
        """
        if not self.own:
            return [{}] if self._responses(self.layout.met) <= MOST_RESPONSES else None
        found = []
        count = 0
        waiting = [Walk(self.layout, {}, 1).begin()]
        while waiting:
            walk = waiting.pop()
            row = self._next_own(walk)
            if row is None:
                found.append(walk.picks)
                count = count + walk.count * self._responses(walk.rows)
                if count > MOST_RESPONSES:
                    return None
            else:
                for index, many in reversed(self.layout.different[row]):
                    waiting.append(walk.branch(row, index, many))
        return found

    def need_few(self, picks):
        """Refuses a plan with too many responses."""
        walk = Walk(self.layout, picks, 1).begin()
        self._next_own(walk)
        if self._responses(walk.rows) > MOST_RESPONSES:
            raise TooMany(MOST_RESPONSES + 1)

    def lots_by(self, picks):
        """The list of the lots, each once, that come of a plan and all responses to it."""
        lots = self._lots_ahead(picks)
        if lots is None:
            lots = self._lots_around(picks)
        return lots

    def corners_by(self, picks, unit, store):
        """The corners of what comes of a plan; TooGreat, for this unit and store, if a lot has too great an integer."""
        lots = self.lots_by(picks)
        if has_great(lots):
            raise TooGreat(unit, store)
        return list(self._corners_of(lots))

    def outcome(self):
        """The tuple of whether there are too many responses, whether some lot has too great an integer, and the family.

        Whoever plans at the same rows has the same one, so it is kept for them.
        """
        kept = self.layout.outcomes
        key = tuple(self.own)
        if key not in kept:
            kept[key] = self._worked_out()
        return kept[key]

    def _worked_out(self):
        if not self.layout.met:
            lots = self.lots_by({})
            return False, has_great(lots), [(tuple(lots), ())]
        plans = self.plans()
        if plans is None:
            return True, False, []
        lists = [(picks, self.lots_by(picks)) for picks in plans]
        if any([has_great(lots) for _, lots in lists]):
            return False, True, []
        found = {}
        for picks, lots in lists:
            corners = self._corners_of(lots)
            if corners not in found:
                found[corners] = self.plan_of(picks)
        return False, False, family_among(list(found.items()))

    def _corners_of(self, lots):
        """The tuple of the corners of some different lots."""
        if len(lots) == 1:
            return tuple(lots)
        kept = self._web.ground.corners
        key = tuple(sorted(lots))
        if key not in kept:
            kept[key] = tuple(corners_of(lots))
        return kept[key]

    def _next_own(self, walk):
        """Goes along to the next row of the plan that has no pick; None if all rows are met without any."""
        while walk.at < len(walk.rows):
            row = walk.rows[walk.at]
            if row in walk.picks:
                walk.meet(walk.picks[row])
            elif row in self._is_own:
                return row
            else:
                walk.meet_all()
        return None

    def _next_free(self, walk):
        """Goes along to the next row that has no pick, whosever it is; None if all rows are met without any."""
        while walk.at < len(walk.rows):
            row = walk.rows[walk.at]
            if row not in walk.picks:
                return row
            walk.meet(walk.picks[row])
        return None

    def _responses(self, rows):
        """How many responses there are to a plan that meets these rows."""
        count = 1
        for row in rows:
            if row not in self._is_own:
                count = count * len(self.layout.short[row])
        return count

    def _lots_ahead(self, picks):
        """The lots as `lots_by` has them, if no row leads back to itself or to a row ahead of it; otherwise None.

        Of what comes by some picks only the weights of the places count that are come to, so that equal ones, from the
        first row on, are gone on with once.
        """
        layout = self.layout
        found = {}
        waiting = {}
        laid_among(layout.entry[1], waiting, found, self.many)
        while waiting:
            row = min(waiting)
            indices = [picks[row]] if row in picks else [index for index, _ in layout.different[row]]
            group = waiting.pop(row)
            for parts in list(group.values()):
                for index in indices:
                    whole, ahead = layout.short[row][index]
                    first = laid_among(stepped(parts, row, whole, ahead), waiting, found, self.many)
                    if first is not None and first <= row:
                        return None
        return list(found)

    def _lots_around(self, picks):
        """The lots as `lots_by` has them, response by response."""
        found = {}
        waiting = [Walk(self.layout, picks, 1).begin()]
        while waiting:
            walk = waiting.pop()
            row = self._next_free(walk)
            if row is None:
                found[self._lot(walk)] = True
            else:
                for index, _ in self.layout.different[row]:
                    waiting.append(walk.branch(row, index, 1))
        return list(found)

    def _lot(self, walk):
        """The lot that comes if each of the rows that are met has a pick."""
        kept = self.layout.lots
        # The picks of the rows, as they are met, tell which rows these are.
        key = tuple([walk.picks[row] for row in walk.rows])
        if key not in kept:
            chain = Chain(-self.many)
            for row in sorted(walk.rows, reverse=True):
                whole, parts = self.layout.short[row][walk.picks[row]]
                chain.leave_out(row, whole, parts)
            _, parts = chain.told_by(self.layout.entry[0], self.layout.entry[1])
            kept[key] = tuple(shortened([parts.get(-1 - outcome, 0) for outcome in range(self.many)]))
        return kept[key]


class Walk:
    """Rows that are met one behind another by picks; `at` is the index of the first one whose moves are left."""

    def __init__(self, layout, picks, count):
        self.rows = []
        self.picks = picks
        self.at = 0
        self.count = count
        self._layout = layout
        self._seen = 0

    def begin(self):
        """Begins where the layout does; the walk itself."""
        self._add(self._layout.entry[1])
        return self

    def branch(self, row, index, many):
        """A walk that has gone as far and has a pick more, which stands for so many."""
        picks = dict(self.picks)
        picks[row] = index
        other = Walk(self._layout, picks, self.count * many)
        other.take(self.rows, self.at, self._seen)
        return other

    def take(self, rows, at, seen):
        """Goes as far as another walk."""
        self.rows = list(rows)
        self.at = at
        self._seen = seen

    def meet(self, index):
        """Goes on by one move of the first row whose moves are left."""
        self._add(self._layout.short[self.rows[self.at]][index][1])
        self.at = self.at + 1

    def meet_all(self):
        """Goes on by all moves of this row."""
        moves = self._layout.short[self.rows[self.at]]
        for _, parts in moves:
            self._add(parts)
        self.at = self.at + 1

    def _add(self, parts):
        for target in parts:
            if target >= 0 and not self._seen >> target & 1:
                self._seen = self._seen | 1 << target
                self.rows.append(target)


def laid_among(parts, waiting, found, many):
    """Lays parts among those that wait for the least one of their rows, which is returned; outcomes alone are a lot."""
    first = None
    for target in parts:
        if target >= 0 and (first is None or target < first):
            first = target
    if first is None:
        found[tuple([parts.get(-1 - outcome, 0) for outcome in range(many)])] = True
        return None
    if first not in waiting:
        waiting[first] = {}
    waiting[first][tuple(sorted(list(parts.items())))] = parts
    return first


def stepped(parts, row, whole, ahead):
    """The parts with what is ahead of a row in its place, without a common divisor."""
    if len(parts) == 1:
        return ahead
    weight = parts[row]
    found = {target: worth * whole for target, worth in parts.items() if target != row}
    for target, worth in ahead.items():
        found[target] = found.get(target, 0) + weight * worth
    return shortest(0, found)[1]


def family_from(web, place, unit, store):
    """The family from a place of a web, a list of tuples (set, plan), ascending; unit and store are for errors."""
    if isinstance(place, int):
        return [((tuple([int(at == place) for at in range(web.never + 1)]),), ())]
    kept = web.ground.families
    key = (web.camp, place)
    if key not in kept:
        kept[key] = Prospect(web, place).outcome()
    is_long, is_great, family = kept[key]
    if is_long:
        raise TooMany(MOST_RESPONSES + 1)
    if is_great:
        raise TooGreat(unit, store)
    return family


def family_among(sets):
    """Those of the tuples (set, plan), ascending by sets, in whose polygon no other set has all its lots."""
    return [(lots, plan) for lots, plan in sorted(sets) if len(lots) == 1 or not has_within(lots, sets)]


def has_within(lots, sets):
    """Whether the polygon of some lots has all lots of another one of some tuples (set, plan)."""
    known = {lot: True for lot in lots}
    for other, _ in sets:
        if other != lots and all_within(lots, known, other):
            return True
    return False


def all_within(lots, known, other):
    """Whether all lots of another set lie in the polygon of some lots; what is found of lots is kept in `known`."""
    for lot in other:
        if lot not in known:
            known[lot] = is_mixed(lots, lot)
        if not known[lot]:
            return False
    return True


def has_great(lots):
    """Whether some lot has too great an integer."""
    bound = 10 ** 40
    return any([max(lot) >= bound for lot in lots])

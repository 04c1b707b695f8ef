"""Prospects: what comes of all plans and all responses from a place of a web."""

from evenpatch.boards import Board
from evenpatch.chains import Chain
from evenpatch.cones import corners_of
from evenpatch.errors import TooGreat, TooMany
from evenpatch.kinds import is_tuple_of, is_within
from evenpatch.rows import shortened

MOST_RESPONSES = 256


class Prospect:
    """Plans from a place of a web; in the view "S" they are the side's, in the view "T" those of its enemy.

    Picks are dicts from rows, by their numbers, to indices of moves.
    """

    def __init__(self, web, place):
        self.board = Board(web, place)
        self.own = self.board.free_rows("A" if web.view == "S" else "B")
        self._is_own = {row: True for row in self.own}

    def is_plan(self, value):
        """Whether any value is a plan."""
        if not is_tuple_of(value, len(self.own)):
            return False
        return all([is_within(item, 0, len(self.board.short[row]) - 1) for item, row in zip(value, self.own)])

    def plan_of(self, picks):
        """The plan with these picks, and the first move where it has none."""
        return tuple([picks.get(row, 0) for row in self.own])

    def picks_of(self, plan):
        """The picks of a plan."""
        return {row: index for row, index in zip(self.own, plan)}

    def plans(self):
        """The list of the picks of plans, of alike ones just one; TooMany if they have too many responses."""
        found = []
        count = 0
        waiting = [{}]
        while waiting:
            picks = waiting.pop()
            rows, row = self._met(picks, True)
            if row is None:
                found.append(picks)
                count = count + self._responses(rows)
                if count > MOST_RESPONSES:
                    raise TooMany(MOST_RESPONSES + 1)
            else:
                waiting.extend(self._branches(picks, row))
        return found

    def need_few(self, picks):
        """Refuses a plan with too many responses."""
        rows, _ = self._met(picks, True)
        if self._responses(rows) > MOST_RESPONSES:
            raise TooMany(MOST_RESPONSES + 1)

    def lots_by(self, picks):
        """The list of the lots, each once, that come of a plan and all responses to it."""
        found = {}
        waiting = [picks]
        while waiting:
            one = waiting.pop()
            rows, row = self._met(one, False)
            if row is None:
                found[self._lot(rows, one)] = True
            else:
                waiting.extend(self._branches(one, row))
        return list(found)

    def corners_by(self, picks, unit, store):
        """The corners of what comes of a plan; TooGreat, for this unit and store, if a lot has too great an integer."""
        lots = self.lots_by(picks)
        need_small(lots, unit, store)
        return corners_of(lots)

    def sets(self, unit, store):
        """The list of the tuples (corners, plan) of all plans, equal corners once; unit and store are for errors."""
        found = {}
        lists = [(picks, self.lots_by(picks)) for picks in self.plans()]
        for _, lots in lists:
            need_small(lots, unit, store)
        for picks, lots in lists:
            corners = tuple(corners_of(lots))
            if corners not in found:
                found[corners] = self.plan_of(picks)
        return list(found.items())

    def _branches(self, picks, row):
        """The picks with each move of one more row, the last one first."""
        found = []
        for index in reversed(range(len(self.board.short[row]))):
            branch = {one: picks[one] for one in picks}
            branch[row] = index
            found.append(branch)
        return found

    def _met(self, picks, is_own):
        """The tuple of the rows met by the picks and the first one that asks for a pick, or None.

        Where there is no pick, the plan's rows ask for one if `is_own` is True, and all moves of the free ones' rows
        may be taken; otherwise those of the free one ask.
        """
        found = [target for target in self.board.entry[1] if target >= 0]
        seen = {row: True for row in found}
        at = 0
        while at < len(found):
            row = found[at]
            moves = self.board.short[row]
            if row in picks:
                moves = [moves[picks[row]]]
            elif is_own == (row in self._is_own):
                return found, row
            for _, parts in moves:
                for target in parts:
                    if target >= 0 and target not in seen:
                        seen[target] = True
                        found.append(target)
            at += 1
        return found, None

    def _responses(self, rows):
        """How many responses there are to a plan that meets these rows."""
        count = 1
        for row in rows:
            if row not in self._is_own:
                count = count * len(self.board.short[row])
        return count

    def _lot(self, rows, picks):
        """The lot that comes if each of the rows that are met has a pick."""
        chain = Chain(self.board.never)
        for row in sorted(rows, reverse=True):
            whole, parts = self.board.short[row][picks[row]]
            chain.leave_out(row, whole, parts)
        _, parts = chain.told_by(self.board.entry[0], self.board.entry[1])
        return tuple(shortened([parts.get(-1 - outcome, 0) for outcome in range(self.board.many)]))


def need_small(lots, unit, store):
    """Refuses lots with too great an integer."""
    bound = 10 ** 40
    for lot in lots:
        if max(lot) >= bound:
            raise TooGreat(unit, store)

"""Claims: any values judged as papers of what a running session is worth."""

from evenpatch.kinds import is_row_of, is_tuple_of
from evenpatch.packs import is_above, joined_packs, lowest, mean_pack, moved_by, nought, pack_of, sign_of
from evenpatch.ratios import Ratio, as_ratio, is_number


def is_claim(webs, places, store, payoff, value):
    """Whether any value is a tuple (number, papers) for the webs of the frames, the lowest first, at their places.

    `store` is that of the session, the payoff is as the one who leads sees it.
    """
    if not is_tuple_of(value, 2) or not is_number(value[0]) or not is_row_of(value[1], len(webs)):
        return False
    number = as_ratio(value[0])
    if not webs:
        return number == payoff[store]
    ends = [(1, item - payoff[-1]) for item in payoff]
    for at, (web, place) in enumerate(zip(webs, places)):
        claim = Claim(web, ends, payoff[-1])
        if not claim.takes(web.frame_rows(place), value[1][at]) or not claim.is_right():
            return False
        if at + 1 < len(webs):
            ends = claim.handed_up(place)
        else:
            pack = moved_by(claim.packs[place], payoff[-1])
    return number == Ratio(pack[1], pack[0])


class Claim:
    """The table and the ranks of one frame, as packs counted from never's."""

    def __init__(self, web, ends, never):
        self.packs = {outcome: pack for outcome, pack in enumerate(ends)}
        self._debts = {outcome: nought(1) for outcome in range(len(ends))}
        self._web = web
        self._never = never
        self._many = len(ends[0]) - 1
        self._rows = []

    def takes(self, rows, value):
        """Whether any value is a tuple of a table and ranks for the rows, which then are kept."""
        if not is_tuple_of(value, 2):
            return False
        table, ranks = value
        if not is_row_of(table, len(rows)) or not is_row_of(ranks, len(rows)):
            return False
        for row, item, rank in zip(rows, table, ranks):
            if not self._is_told(row, item) or not self._is_told(row, rank):
                return False
            if not is_row_of(item[1], self._many) or not isinstance(item[1], tuple):
                return False
            if not all([is_number(one) for one in item[1]]) or not is_number(rank[1]) or as_ratio(rank[1]).top < 0:
                return False
            self.packs[row] = moved_by(pack_of(item[1]), -self._never)
            self._debts[row] = pack_of([-as_ratio(rank[1])])
        self._rows = rows
        return True

    def is_right(self):
        """Whether at the leader's rows some move goes with the paper, and at all others each move."""
        leader = "A" if self._web.view == "S" else "B"
        for row in self._rows:
            told = [self._goes(row, move) for move in self._web.moves_of(row)]
            if self._web.owner_of(row) == leader:
                if not any(told):
                    return False
            elif not all(told):
                return False
        return True

    def handed_up(self, row):
        """The list of the packs by which the frame above goes."""
        places = [self._web.behind(row, outcome) for outcome in range(self._web.never + 1)]
        return [joined_packs(self.packs[place], self._debts[place]) for place in places]

    def _is_told(self, row, item):
        """Whether any value is a tuple of this row and something else."""
        return is_tuple_of(item, 2) and self._web.is_row(item[0]) and item[0] == row

    def _goes(self, row, move):
        """Whether a move goes with the paper: more is behind it, or as much, and then the rank pays for the row."""
        worth = self.packs[row]
        mean = mean_pack(move, self.packs)
        if mean != worth:
            return is_above(mean, worth)
        debt = mean_pack(move, self._debts)
        cost = int(sign_of(worth) > 0)
        return not is_above(self._debts[row], lowest(debt[0], [debt[1] - cost * debt[0]]))

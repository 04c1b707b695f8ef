"""Duels: what a leader brings about on a board against all others, exactly, with the plans of both."""

from evenpatch.chains import Chain, mean_behind
from evenpatch.ratios import Ratio

FIRST_BITS = 64
COST = -100


class Duel:
    """The leader takes moves at the rows of one owner, and wants much of the items; the other one wants little.

    What goes on without end brings never's item, from which all items are counted here, so that it brings 0. `picks`
    has a move for each row with two or more of them, `brought` what each row brings if both go by these picks.

    Picks are improved in a duel that stops, at each row with two or more moves, with a small chance. If the chance is
    small enough, the best picks there are best without it, too; this is proved for the picks that are found, and with
    smaller and smaller chances such picks are found at last.
    """

    def __init__(self, board, leader, items):
        self.board = board
        self._never = items[-1]
        self._outcomes = {-1 - at: Ratio(item - self._never) for at, item in enumerate(items)}
        other = "B" if leader == "A" else "A"
        self._mine = board.free_rows(leader)
        self._others = board.free_rows(other)
        self.picks = {row: 0 for row in board.short}
        self.brought = {}
        bits = FIRST_BITS
        while not self._is_solved(bits):
            bits = bits * 2

    def worth_there(self):
        """What the place of the board brings, as a payoff has it."""
        return mean_behind(self.board.entry[0], self.board.entry[1], self.brought) + self._never

    def taken_plan(self):
        """The leader's plan."""
        return tuple([self.picks[row] for row in self._mine])

    def shown_table(self):
        """What each row of the board brings, as a payoff has it."""
        return [number + self._never for number in self._all_values()]

    def shown_ranks(self):
        """For each row how many rows that bring more than never are passed in the mean, while what is brought stays.

        It is the greatest one over what the other one can do.
        """
        board = self.board
        values = {row: number for row, number in zip(board.sequence, self._all_values())}
        values.update(self._outcomes)
        taken = {row: moves[:1] for row, moves in board.tracks.items()}
        for row in self._mine:
            taken[row] = [board.tracks[row][self.picks[row]]]
        for row in self._others:
            taken[row] = [move for move in board.tracks[row] if mean_of(move, values) == values[row]]
        picks = {row: 0 for row in taken}
        while True:
            ranks = self._counted(taken, picks, values)
            if not switched(picks, [row for row in taken if len(taken[row]) > 1], taken, ranks, True):
                return [ranks[row] for row in board.sequence]

    def _counted(self, taken, picks, values):
        """The ranks of the rows if one of the moves that may be taken is picked for each."""
        chain = Chain(self.board.never)
        for row in reversed(self.board.sequence):
            move = taken[row][picks[row]]
            whole = sum(list(move.values()))
            parts = {target: weight for target, weight in move.items() if target >= 0}
            if values[row].top > 0:
                parts[COST] = whole
            chain.leave_out(row, whole, parts)
        ends = {outcome: Ratio(0) for outcome in self._outcomes}
        ends[COST] = Ratio(1)
        return chain.worths(self.board.sequence, ends)

    def _all_values(self):
        """What each row of the board brings, ascending."""
        found = []
        for row in self.board.sequence:
            whole, parts = self.board.short_of(row)
            found.append(mean_behind(whole, parts, self.brought))
        return found

    def _is_solved(self, bits):
        """Improves the picks with a chance of one in 2 ** bits to stop; whether they are best without it."""
        moves = self.board.short
        while True:
            self._answer(bits)
            if not switched(self.picks, self._mine, moves, self.brought, True):
                break
        self.brought = self._evaluated(0)
        return self._is_best() and not self._is_endless(self._mine, 1) and not self._is_endless(self._others, -1)

    def _answer(self, bits):
        """Lets the other one take what is best against the leader's picks."""
        while True:
            self.brought = self._evaluated(bits)
            if not switched(self.picks, self._others, self.board.short, self.brought, False):
                return

    def _evaluated(self, bits):
        """What the rows bring by the picks, if the duel stops with a chance of one in 2 ** bits, or never for 0."""
        chain = Chain(self.board.never)
        rows = sorted(self.board.short)
        for row in reversed(rows):
            whole, parts = self.board.short[row][self.picks[row]]
            if bits > 0:
                whole = whole << bits
                parts = {target: (weight << bits) - weight for target, weight in parts.items()}
            chain.leave_out(row, whole, parts)
        return chain.worths(rows, self._outcomes)

    def _is_best(self):
        """Whether no single move brings the leader more than a row of its own, nor less than one of the other one."""
        for rows, sign in [(self._mine, 1), (self._others, -1)]:
            for row in rows:
                for whole, parts in self.board.short[row]:
                    ahead = mean_behind(whole, parts, self.brought) - self.brought[row]
                    if ahead.top * sign > 0:
                        return False
        return True

    def _is_endless(self, rows, sign):
        """Whether those without these rows can stay for ever where more than never is brought, less for a sign below 0.

        They take moves that change nothing of what is brought, while at these rows the picks are taken.
        """
        inside = {row: True for row, number in self.brought.items() if row >= 0 and number.top * sign > 0}
        while True:
            left = {row: True for row in inside if self._can_stay(row, rows, inside)}
            if len(left) == len(inside):
                return len(left) > 0
            inside = left

    def _can_stay(self, row, rows, inside):
        moves = self.board.short[row]
        if row in rows:
            moves = [moves[self.picks[row]]]
        for whole, parts in moves:
            if all([target in inside for target in parts]):
                if mean_behind(whole, parts, self.brought) == self.brought[row]:
                    return True
        return False


def switched(picks, rows, moves, values, is_up):
    """Whether some row has a move with a better mean than its pick; the best one is picked there.

    A move is a tuple (whole, parts), or parts alone.
    """
    is_changed = False
    for row in rows:
        means = [mean_of(move, values) for move in moves[row]]
        best = picks[row]
        for at, found in enumerate(means):
            if (is_up and means[best].below(found)) or (not is_up and found.below(means[best])):
                best = at
        if best != picks[row]:
            picks[row] = best
            is_changed = True
    return is_changed


def mean_of(move, values):
    """The mean of the values behind a move."""
    if isinstance(move, dict):
        return mean_behind(sum(list(move.values())), move, values)
    return mean_behind(move[0], move[1], values)

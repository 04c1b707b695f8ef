"""Knots: rows that lead to one another, and what a leader and the other one bring about there, exactly."""

from math import gcd, lcm

from evenpatch.packs import is_above, lowest, sign_of


class Knot:
    """Rows, numbered from 0 on, with signs: 1 for one of the leader, -1 for one of the other one, 0 for a wheel.

    A move is a tuple (whole, inner, outer): the row brings the sum of what the rows of the dict `inner` bring, each by
    its weight, and of the tops `outer`, divided by the whole; all tops of a knot are to be divided by one bottom. What
    goes round without end brings noughts, and so does whatever cannot leave the knot.

    The leader's picks are improved against the best that the other one can take. A pick is left only for a better
    move, or where going round for ever is better than what is brought; so what is brought never becomes worse, and no
    picks come again.
    """

    def __init__(self, signs, moves, picks, bottom):
        self.picks = picks
        self.brought = []
        self._signs = signs
        self._moves = moves
        self._bottom = bottom

    def solve(self):
        """Seeks picks of both that are best against each other, and what they bring."""
        while True:
            self._answer()
            if not self._switch(1) and not self._stay(1):
                return

    def keeping(self, row):
        """The indices of the moves of a row that bring just what the row brings."""
        return [at for at, move in enumerate(self._moves[row]) if self._mean(move) == self.brought[row]]

    def _answer(self):
        """Lets the other one take what is best against the leader's picks."""
        while True:
            taken = [moves[pick] for moves, pick in zip(self._moves, self.picks)]
            self.brought = solved(taken, self._bottom)
            if not self._switch(-1) and not self._stay(-1):
                return

    def _switch(self, sign):
        """Takes the best move at each row of one of the two where it is better than what the row brings."""
        is_changed = False
        for row, moves in enumerate(self._moves):
            if self._signs[row] == sign and len(moves) > 1:
                best = self.brought[row]
                for at, move in enumerate(moves):
                    found = self._mean(move)
                    if (sign > 0 and is_above(found, best)) or (sign < 0 and is_above(best, found)):
                        best = found
                        self.picks[row] = at
                        is_changed = True
        return is_changed

    def _stay(self, sign):
        """Lets one of the two go round for ever where this is better for it, and where nothing else changes."""
        inside = {row: True for row, pack in enumerate(self.brought) if sign_of(pack) == -sign}
        while inside:
            left = {row: True for row in inside if self._can_stay(row, sign, inside)}
            if len(left) == len(inside):
                for row in inside:
                    if self._signs[row] == sign:
                        self.picks[row] = self._inner_picks(row, inside)[0]
                return True
            inside = left
        return False

    def _can_stay(self, row, sign, inside):
        """Whether a row leads to rows inside alone; the leader's picks stay while the other one takes what is best."""
        if self._signs[row] == sign:
            return len(self._inner_picks(row, inside)) > 0
        if sign > 0 and self._signs[row] < 0:
            return len(self._inner_picks(row, inside)) == len(self.keeping(row))
        return is_inside(self._moves[row][self.picks[row]], inside)

    def _inner_picks(self, row, inside):
        """The indices of the moves that keep what a row brings and lead to rows inside alone."""
        return [at for at in self.keeping(row) if is_inside(self._moves[row][at], inside)]

    def _mean(self, move):
        """The pack of what a move brings."""
        whole, inner, outer = move
        return worth_by(whole, inner, outer, self.brought, self._bottom)


def is_inside(move, inside):
    """Whether a move leads to rows inside alone; what leads outside of the knot has the greater whole."""
    whole, inner, _ = move
    return sum(list(inner.values())) == whole and all([row in inside for row in inner])


def worth_by(whole, inner, outer, packs, bottom):
    """The pack of the sum of packs by their weights and of the tops, which have a bottom, divided by the whole."""
    # All packs are brought to one bottom, a multiple of that of the tops.
    size = bottom
    for row in inner:
        size = lcm(size, packs[row][0])
    tops = [top * (size // bottom) for top in outer]
    for row, weight in inner.items():
        factor = weight * (size // packs[row][0])
        tops = [top + factor * more for top, more in zip(tops, packs[row][1:])]
    return lowest(whole * size, tops)


def solved(taken, bottom):
    """The list of the packs that the rows bring if each has just one move."""
    told = {}
    for at in reversed(range(len(taken))):
        told[at] = without_greater(at, taken[at], told)
    packs = []
    for at in range(len(taken)):
        whole, inner, outer = told[at]
        packs.append(worth_by(whole, inner, outer, packs, bottom))
    return packs


def without_greater(at, move, told):
    """The move of a row by rows with lesser numbers alone; `told` has such moves of all rows with greater ones."""
    whole, inner, outer = move
    left = dict(inner)
    greater = [row for row in left if row > at]
    while greater:
        row = max(greater)
        weight = left.pop(row)
        other_whole, others, other_outer = told[row]
        common = gcd(weight, other_whole)
        factor = other_whole // common
        weight = weight // common
        whole = whole * factor
        if factor > 1:
            left = {one: worth * factor for one, worth in left.items()}
        for one, worth in others.items():
            left[one] = left.get(one, 0) + weight * worth
        outer = [top * factor + weight * more for top, more in zip(outer, other_outer)]
        greater = [one for one in left if one > at]
    back = left.pop(at, 0)
    if back == whole:
        return 1, {}, [0] * len(outer)
    return shortened_move(whole - back, left, outer)


def shortened_move(whole, inner, outer):
    """A move divided by the greatest common divisor of all its integers."""
    common = whole
    for item in [*list(inner.values()), *outer]:
        if common == 1:
            return whole, inner, outer
        common = gcd(common, item)
    return whole // common, {row: weight // common for row, weight in inner.items()}, [top // common for top in outer]


def knots_of(ahead):
    """The lists of rows that lead to one another, each behind those to which it leads.

    `ahead` is a list that has for each row, numbered from 0 on, the list of the rows to which it leads.
    """
    search = Search(ahead)
    for row in range(len(ahead)):
        search.begin(row)
    return search.found


class Search:
    """Goes along from row to row; `found` has the knots that are known."""

    def __init__(self, ahead):
        self.found = []
        self._leads = ahead
        self._order = {}
        self._path = []
        self._roots = []
        self._is_done = {}

    def begin(self, start):
        """Goes along from a row, unless it is known."""
        if start in self._order:
            return
        trail = [(start, 0)]
        self._enter(start)
        while trail:
            row, at = trail.pop()
            if at == len(self._leads[row]):
                self._leave(row)
            else:
                trail.append((row, at + 1))
                target = self._leads[row][at]
                if target not in self._order:
                    self._enter(target)
                    trail.append((target, 0))
                elif target not in self._is_done:
                    # All rows of the path from this one on lead to one another.
                    while self._order[self._roots[-1]] > self._order[target]:
                        self._roots.pop()

    def _enter(self, row):
        self._order[row] = len(self._order)
        self._path.append(row)
        self._roots.append(row)

    def _leave(self, row):
        if self._roots[-1] == row:
            self._roots.pop()
            at = self._path.index(row)
            knot = self._path[at:]
            del self._path[at:]
            for one in knot:
                self._is_done[one] = True
            self.found.append(knot)

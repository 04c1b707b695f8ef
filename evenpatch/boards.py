"""Boards: the rows that can be met from a place of a web, with numbers for names."""

from evenpatch.chains import Chain


class Board:
    """The rows met from a place, numbered in ascending order; the outcome k has the number -1 - k.

    `tracks` has for each row its moves, dicts from targets to weights. Rows with one move leave nothing to choose:
    `short` has for each other row its moves as tuples (whole, parts) that lead to no such rows, and `entry` is such a
    tuple for the place.
    """

    def __init__(self, web, place):
        self._web = web
        self.rows = web.rows_from(place)
        self.never = -1 - web.never
        self.many = web.never + 1
        numbers = {row: at for at, row in enumerate(self.rows)}
        self.owners = [web.owner_of(row) for row in self.rows]
        self.tracks = [[numbered(move, numbers) for move in web.moves_of(row)] for row in self.rows]
        self.place = target_of(place, numbers)
        self._chain = Chain(self.never)
        for at in reversed(range(len(self.rows))):
            if len(self.tracks[at]) == 1:
                self._chain.leave_out(at, sum(list(self.tracks[at][0].values())), self.tracks[at][0])
        self.entry = self._chain.told_by(1, {self.place: 1})
        self.short = {}
        for at in range(len(self.rows)):
            if len(self.tracks[at]) > 1:
                self.short[at] = [self._shortened(move) for move in self.tracks[at]]

    def _shortened(self, move):
        return self._chain.told_by(sum(list(move.values())), move)

    def is_named(self, value, row):
        """Whether any value is this row."""
        return self._web.is_row(value) and value == row

    def free_rows(self, owner):
        """The ascending list of the rows of an owner that have two or more moves."""
        return [at for at in self.short if self.owners[at] == owner]

    def short_of(self, at):
        """The tuple (whole, parts) of a row by rows with two or more moves, and by outcomes."""
        return self._chain.told_by(1, {at: 1})


def numbered(move, numbers):
    """A move as a dict from the numbers of its targets to weights."""
    return {target_of(place, numbers): weight for place, weight in move}


def target_of(place, numbers):
    """The number of a place on a board."""
    if isinstance(place, int):
        return -1 - place
    return numbers[place]

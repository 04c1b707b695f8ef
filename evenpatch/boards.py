"""Boards: the rows that can be met from a place of a web, with numbers for names."""

from evenpatch.chains import Chain, shortest


class Layout:
    """The rows met from a place, numbered in ascending order; the outcome k has the number -1 - k.

    `tracks` has for each row its moves, dicts from targets to weights. Rows with one move leave nothing to choose:
    `short` has for each other row its moves as tuples (whole, parts) that lead to no such rows, and `entry` is such a
    tuple for the place. `different` has for each of these rows the tuples (index, count) of its different short moves:
    the index of the first one of them and how many they are. What has been worked out of it is kept here, too: the
    lots that come by picks of moves, the corners of lots, and the families by the rows of who plans.
    """

    def __init__(self, web, place):
        self.rows = web.rows_from(place)
        self.never = -1 - web.never
        numbers = {row: at for at, row in enumerate(self.rows)}
        self.tracks = [[numbered(move, numbers) for move in web.moves_of(row)] for row in self.rows]
        self.place = target_of(place, numbers)
        self.chain = Chain(self.never)
        for at in reversed(range(len(self.rows))):
            if len(self.tracks[at]) == 1:
                self.chain.leave_out(at, sum(list(self.tracks[at][0].values())), self.tracks[at][0])
        self.entry = self._shortened({self.place: 1})
        self.short = {}
        for at in range(len(self.rows)):
            if len(self.tracks[at]) > 1:
                self.short[at] = [self._shortened(move) for move in self.tracks[at]]
        self.different = {at: different_ones(moves) for at, moves in self.short.items()}
        self.lots = {}
        self.corners = {}
        self.families = {}

    def _shortened(self, move):
        whole, parts = self.chain.told_by(sum(list(move.values())), move)
        return shortest(whole, parts)


class Board:
    """The rows met from a place, as a layout has them, with their owners."""

    def __init__(self, web, place):
        self._web = web
        layouts = web.ground.layouts
        if place not in layouts:
            layouts[place] = Layout(web, place)
        layout = layouts[place]
        self.layout = layout
        self.rows = layout.rows
        self.never = layout.never
        self.many = web.never + 1
        self.tracks = layout.tracks
        self.place = layout.place
        self.entry = layout.entry
        self.short = layout.short
        self.owners = [web.owner_of(row) for row in self.rows]

    def is_named(self, value, row):
        """Whether any value is this row."""
        return self._web.is_row(value) and value == row

    def free_rows(self, owner):
        """The ascending list of the rows of an owner that have two or more moves."""
        return [at for at in self.short if self.owners[at] == owner]

    def short_of(self, at):
        """The tuple (whole, parts) of a row by rows with two or more moves, and by outcomes."""
        return self.layout.chain.told_by(1, {at: 1})


def different_ones(moves):
    """The tuples (index, count) of different moves: the index of the first one of equal ones, and how many they are."""
    found = []
    for at, move in enumerate(moves):
        first = moves.index(move)
        if first == at:
            found.append((at, moves.count(move)))
    return found


def numbered(move, numbers):
    """A move as a dict from the numbers of its targets to weights."""
    return {target_of(place, numbers): weight for place, weight in move}


def target_of(place, numbers):
    """The number of a place on a board."""
    if isinstance(place, int):
        return -1 - place
    return numbers[place]

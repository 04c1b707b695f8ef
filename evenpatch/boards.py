"""Boards: the rows that can be met from a place of a web, with numbers for names."""

from evenpatch.chains import Chain, shortest


class Terrain:
    """Rows of a web by numbers that are ordered as the rows are; the outcome k has the number -1 - k.

    `tracks` has for each row its moves, dicts from targets to weights. Rows with one move leave nothing to choose:
    `short` has for each other row its moves as tuples (whole, parts) that lead to no such rows, and `different` the
    tuples (index, count) of its different short moves: the index of the first one of them and how many they are.
    """

    def __init__(self, never):
        self.tracks = {}
        self.short = {}
        self.different = {}
        self._chain = Chain(-1 - never)

    def add(self, web, rows):
        """Adds the rows that are not known of all rows that can be met from some place, which are ascending."""
        new = [(row, web.number_of(row)) for row in rows]
        new = [(row, number) for row, number in new if number not in self.tracks]
        for row, number in new:
            self.tracks[number] = [numbered(move, web) for move in web.moves_of(row)]
        for _, number in reversed(new):
            moves = self.tracks[number]
            if len(moves) == 1:
                self._chain.leave_out(number, sum(list(moves[0].values())), moves[0])
        for _, number in new:
            if len(self.tracks[number]) > 1:
                moves = [self.shortened(move) for move in self.tracks[number]]
                self.short[number] = moves
                self.different[number] = different_ones(moves)

    def shortened(self, move):
        """A move as a tuple (whole, parts) that leads to no rows with one move."""
        whole, parts = self._chain.told_by(sum(list(move.values())), move)
        return shortest(whole, parts)


class Layout:
    """The rows met from a place, as a terrain has them: `sequence` has their numbers, ascending.

    `entry` is the place as a tuple (whole, parts) by rows with two or more moves. What has been worked out is kept
    here, too: the lots that come by picks of moves, the corners of lots, and the families by the rows of who plans.
    """

    def __init__(self, web, place):
        terrain = web.ground.terrain
        self.rows = web.bounded_rows(place, False)
        terrain.add(web, self.rows)
        self.sequence = [web.number_of(row) for row in self.rows]
        self.tracks = {number: terrain.tracks[number] for number in self.sequence}
        self.short = {number: terrain.short[number] for number in self.sequence if number in terrain.short}
        self.different = terrain.different
        self.terrain = terrain
        self.place = target_of(place, web)
        self.entry = terrain.shortened({self.place: 1})
        self.lots = {}
        self.corners = {}
        self.families = {}


class Board:
    """The rows met from a place, as a layout has them, with their owners."""

    def __init__(self, web, place):
        self._web = web
        layouts = web.ground.layouts
        if place not in layouts:
            layouts[place] = Layout(web, place)
        layout = layouts[place]
        self.layout = layout
        self.rows = layout.rows
        self.sequence = layout.sequence
        self.never = -1 - web.never
        self.many = web.never + 1
        self.tracks = layout.tracks
        self.place = layout.place
        self.entry = layout.entry
        self.short = layout.short

    def is_named(self, value, row):
        """Whether any value is this row."""
        return self._web.is_row(value) and value == row

    def free_rows(self, owner):
        """The ascending list of the rows of an owner that have two or more moves."""
        rows = [(row, at) for row, at in zip(self.rows, self.sequence) if at in self.short]
        return [at for row, at in rows if self._web.owner_of(row) == owner]

    def short_of(self, at):
        """The tuple (whole, parts) of a row by rows with two or more moves, and by outcomes."""
        return self.layout.terrain.shortened({at: 1})


def different_ones(moves):
    """The tuples (index, count) of different moves: the index of the first one of equal ones, and how many they are."""
    found = []
    for at, move in enumerate(moves):
        first = moves.index(move)
        if first == at:
            found.append((at, moves.count(move)))
    return found


def numbered(move, web):
    """A move as a dict from the numbers of its targets to weights."""
    return {target_of(place, web): weight for place, weight in move}


def target_of(place, web):
    """The number of a place of a web."""
    if isinstance(place, int):
        return -1 - place
    return web.number_of(place)

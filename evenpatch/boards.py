"""Boards: the rows that can be met from a place of a web, with numbers for names."""

from evenpatch.chains import Chain, shortest


class Terrain:
    """Rows of a web by numbers that are ordered as the rows are; the outcome k has the number -1 - k.

    `tracks` has for each row its moves, dicts from targets to weights. Rows with one move leave nothing to choose:
    `short` has for each other row its moves as tuples (whole, parts) that lead to no such rows, and `different` the
    tuples (index, count) of its different short moves: the index of the first one of them and how many they are.
    """

    def __init__(self, never):
        self.row_by = {}
        self.tracks = {}
        self.short = {}
        self.different = {}
        self._chain = Chain(-1 - never)

    def lay_rows(self, web, rows):
        """Adds the rows that are not known of all rows that can be met from some places, which are ascending."""
        new = []
        for row in rows:
            number = web.number_of(row)
            if number not in self.tracks:
                self.row_by[number] = row
                self.tracks[number] = [numbered(move, web) for move in web.moves_of(row)]
                new.append(number)
        for number in reversed(new):
            moves = self.tracks[number]
            if len(moves) == 1:
                self._chain.leave_out(number, sum(list(moves[0].values())), moves[0])
        for number in new:
            if len(self.tracks[number]) > 1:
                moves = [self.shortened(move) for move in self.tracks[number]]
                self.short[number] = moves
                self.different[number] = different_ones(moves)

    def shortened(self, move):
        """A move as a tuple (whole, parts) that leads to no rows with one move."""
        whole, parts = self._chain.told_by(sum(list(move.values())), move)
        return shortest(whole, parts)

    def met_from(self, parts):
        """The ascending list of the rows with two or more moves that can be met from some parts, theirs too."""
        found = [target for target in parts if target >= 0]
        seen = {row: True for row in found}
        at = 0
        while at < len(found):
            moves = self.short[found[at]]
            for _, others in moves:
                for target in others:
                    if target >= 0 and target not in seen:
                        seen[target] = True
                        found.append(target)
            at += 1
        return sorted(found)


class Layout:
    """What begins with an entry, a tuple (whole, parts) by rows of a terrain with two or more moves.

    `met` are the rows with two or more moves that can be met. What has been worked out is kept here: the lots that come
    by picks of moves, and what comes of all plans, by the rows of who plans.
    """

    def __init__(self, terrain, entry):
        self.entry = entry
        self.met = terrain.met_from(entry[1])
        self.short = terrain.short
        self.different = terrain.different
        self.row_by = terrain.row_by
        self.lots = {}
        self.outcomes = {}


class Board:
    """The rows met from a place, ascending, and their numbers in `sequence`."""

    def __init__(self, web, place):
        self._web = web
        self.rows = web.bounded_rows(place, False)
        self._terrain = web.ground.terrain
        self._terrain.lay_rows(web, self.rows)
        self.sequence = [web.number_of(row) for row in self.rows]
        self.never = -1 - web.never
        self.many = web.never + 1
        self.tracks = {number: self._terrain.tracks[number] for number in self.sequence}
        self.place = target_of(place, web)
        self.entry = self._terrain.shortened({self.place: 1})
        self.short = {at: self._terrain.short[at] for at in self.sequence if at in self._terrain.short}

    def is_named(self, value, row):
        """Whether any value is this row."""
        return self._web.is_row(value) and value == row

    def free_rows(self, owner):
        """The ascending list of the rows of an owner that have two or more moves."""
        rows = [(row, at) for row, at in zip(self.rows, self.sequence) if at in self.short]
        return [at for row, at in rows if self._web.owner_of(row) == owner]

    def short_of(self, at):
        """The tuple (whole, parts) of a row by rows with two or more moves, and by outcomes."""
        return self._terrain.shortened({at: 1})


def layout_at(web, place):
    """The layout that begins at a place of a web; one for all places with equal entries."""
    ground = web.ground
    if place not in ground.layouts:
        add_rows(web, place)
        entry = ground.terrain.shortened({target_of(place, web): 1})
        key = tuple(sorted(list(entry[1].items())))
        if key not in ground.entries:
            ground.entries[key] = Layout(ground.terrain, entry)
        ground.layouts[place] = ground.entries[key]
    return ground.layouts[place]


def add_rows(web, place):
    """Adds all rows that can be met from a place to the terrain, if they are not too many."""
    ground = web.ground
    if not ground.is_begun:
        ground.is_begun = True
        rows = web.rows_from_all(False)
        if web.is_bounded(rows):
            # So few rows in all are not too many from any place.
            ground.terrain.lay_rows(web, rows)
    if isinstance(place, tuple) and web.number_of(place) not in ground.terrain.tracks:
        ground.terrain.lay_rows(web, web.bounded_rows(place, False))


def different_ones(moves):
    """The tuples (index, count) of different moves: the index of the first one of equal ones, and how many they are."""
    found = []
    for at, move in enumerate(moves):
        first = moves.index(move)
        if first == at:
            found.append((at, moves.count(move)))
    return found


def numbered(move, web):
    """A move as a dict from the numbers of its targets to weights."""
    return {target_of(place, web): weight for place, weight in move}


def target_of(place, web):
    """The number of a place of a web."""
    if isinstance(place, int):
        return -1 - place
    return web.number_of(place)

"""Webs: what can happen between a side and its enemy in the body of a unit."""

from evenpatch.checks import body_of, calls_of, check_system
from evenpatch.courses import Course, Ground
from evenpatch.errors import InvalidFamilies, InvalidRow, InvalidSide, InvalidStore, InvalidUnit, InvalidView, TooMany
from evenpatch.kinds import is_row_of, is_tuple_of, is_within
from evenpatch.lots import is_lot_of
from evenpatch.parties import is_side_of
from evenpatch.rows import common_divisor
from evenpatch.spaces import Space

MOST_ROWS = 24
MOST_SETS = 9
MOST_CORNERS = 8


def web(system, unit, side, families, view):
    """The web of a unit over what the units that it calls bring."""
    check_system(system)
    if not is_unit(system, unit):
        raise InvalidUnit(unit)
    if not is_side_of(side, system[0]):
        raise InvalidSide(side)
    space = Space(system[1])
    called = calls_of(system, unit)
    if not isinstance(families, dict):
        raise InvalidFamilies(families)
    kept = {}
    for name in called:
        if name not in families or not is_family_list(families[name], space.never):
            raise InvalidFamilies(families)
        kept[name] = [[tuple(lots) for lots in family] for family in families[name]]
    if not is_view(view):
        raise InvalidView(view)
    return Web(Course(space, body_of(system, unit)), side, kept, view, Ground(space.never))


class Web:
    """The rows of a unit, whose they are, and where their moves lead.

    Webs may have one ground if their courses, the parties of their sides that spin, and their families are the same.
    """

    def __init__(self, course, side, families, view, ground):
        self.never = course.never
        self.side = side
        self.view = view
        self._course = course
        # Webs with one ground have the same owners if this is the same.
        self.camp = (view, tuple([party in side for party in course.choosers]))
        self._families = families
        self.ground = ground

    def is_row(self, value):
        """Whether any value is a row, set rows too."""
        if is_tuple_of(value, 3):
            row = value[:2]
            return self._course.is_call(row) and is_within(value[2], 0, len(self._sets(row)) - 1)
        return self._course.is_row(value)

    def first(self, store):
        """The place to which the way from the beginning of the body leads."""
        if not is_within(store, 0, self.never - 1):
            raise InvalidStore(store)
        return self.first_from(store)

    def first_from(self, store):
        """The place to which the way from the beginning leads from what surely is a store."""
        return self._course.first(store)

    def owner(self, row):
        """Whose a row is: the side's, its enemy's, or nobody's."""
        self._need_row(row)
        return self.owner_of(row)

    def moves(self, row):
        """The list of the moves of a row, each a list of tuples (place, weight)."""
        self._need_row(row)
        return [list(move) for move in self.moves_of(row)]

    def behind(self, row, outcome):
        """The place to which an outcome leads behind the call of a row."""
        if not self._course.is_call(row):
            raise InvalidRow(row)
        if not is_within(outcome, 0, self.never):
            raise InvalidStore(outcome)
        return self._course.behind(row[0], outcome)

    def rows_from(self, place):
        """The ascending list of the rows that can be met from a place."""
        self._need_place(place)
        return self.bounded_rows(place, False)

    def frame_rows(self, place):
        """The ascending list of the rows of a frame from a place."""
        self._need_place(place)
        return self.bounded_rows(place, True)

    def number_of(self, row):
        """The number of what surely is a row; numbers are ordered as rows are."""
        kept = self.ground.numbers
        if row not in kept:
            kept[row] = self._course.number_at(row[0], row[1]) * (MOST_SETS + 1) + (0 if len(row) == 2 else row[2] + 1)
        return kept[row]

    def owner_of(self, row):
        """The owner of what surely is a row."""
        statement = self._course.statement_at(row[0])
        kind = statement[0]
        if kind == "call":
            return "A" if (self.view == "S") == (len(row) == 2) else "B"
        if kind == "choose":
            return "A" if statement[1] in self.side else "B"
        if kind == "spin" and statement[1] not in self.side:
            return "B"
        return "wheel"

    def moves_of(self, row):
        """The moves of what surely is a row, as tuples; worked out once."""
        kept = self.ground.row_moves
        if row not in kept:
            kept[row] = tuple([gathered(parts) for parts in self._parts_of(row)])
        return kept[row]

    def _parts_of(self, row):
        """The list of the moves of a row, each a list of tuples (place, weight) as they come."""
        path, store = row[:2]
        course = self._course
        number = course.number_of(path)
        statement = course.told[number]
        kind = statement[0]
        if kind == "choose" or kind == "while":
            return [[(course.leads(start, store), 1)] for start in course.inner[number]]
        if kind == "call" and len(row) == 2:
            return [[((path, store, index), 1)] for index in range(len(self._sets(row)))]
        if kind == "call":
            return [self._behind_lot(path, lot) for lot in self._sets(row)[row[2]]]
        parts = []
        for value, weight in statement[-1]:
            left = course.space.with_value(store, statement[-2], value)
            parts.append((course.leads(course.after[number], left), weight))
        if self.owner_of(row) == "wheel":
            return [parts]
        return [[(place, 1)] for place, weight in parts]

    def _behind_lot(self, path, lot):
        return [(self._course.behind(path, outcome), weight) for outcome, weight in enumerate(lot) if weight > 0]

    def _sets(self, row):
        """The sets that the unit called at a row has there."""
        path, store = row[:2]
        return self._families[self._course.statement_at(path)[1]][store]

    def _need_row(self, row):
        if not self.is_row(row):
            raise InvalidRow(row)

    def _need_place(self, place):
        if not is_within(place, 0, self.never) and not self.is_row(place):
            raise InvalidRow(place)

    def bounded_rows(self, place, is_frame):
        """The ascending list of the rows from what surely is a place, or of a frame there, if they are not too many."""
        rows = self._met([place], is_frame)
        if not self.is_bounded(rows):
            raise TooMany(len([row for row in rows if len(row) == 2]))
        return rows

    def rows_from_all(self, is_frame):
        """The ascending list of the rows from all stores, or of frames there, however many there are."""
        return self._met([self.first_from(store) for store in range(self.never)], is_frame)

    def is_bounded(self, rows):
        """Whether of some rows not too many are no set rows."""
        return len(rows) <= MOST_ROWS or len([row for row in rows if len(row) == 2]) <= MOST_ROWS

    def _met(self, places, is_frame):
        found = []
        seen = {}
        for place in places:
            if not isinstance(place, int) and place not in seen:
                seen[place] = True
                found.append(place)
        at = 0
        while at < len(found):
            ahead = self._ahead(found[at], is_frame)
            for target in ahead:
                if target not in seen:
                    seen[target] = True
                    found.append(target)
            at += 1
        return sorted(found)

    def _ahead(self, row, is_frame):
        """The rows to which a row leads; in a frame a called unit may end in any store."""
        kept = self.ground.frame_ahead if is_frame else self.ground.ahead
        if row not in kept:
            if is_frame and len(row) == 3:
                places = [self._course.behind(row[0], store) for store in range(self.never)]
            else:
                places = [place for move in self.moves_of(row) for place, weight in move]
            kept[row] = [place for place in places if not isinstance(place, int)]
        return kept[row]


def gathered(parts):
    """The move with these parts: each place once, ascending, with weights without a common divisor."""
    if len(parts) == 1:
        return ((parts[0][0], 1),)
    weights = {}
    for place, weight in parts:
        weights[place] = weights.get(place, 0) + weight
    common = common_divisor(list(weights.values()))
    return tuple([(place, weights[place] // common) for place in sorted(weights, key=place_order)])


def place_order(place):
    """What a place is ordered by: outcomes stand ahead of rows."""
    if isinstance(place, int):
        return 0, place
    return 1, place


def is_unit(system, value):
    """Whether any value is the name of a unit of a system."""
    return value in [name for name, body in system[2]]


def is_view(value):
    """Whether any value is one of the two views."""
    return value in ("S", "T")


def is_family_list(value, never):
    """Whether any value has for each store a list of sets."""
    return is_row_of(value, never) and all([is_family(item, never + 1) for item in value])


def is_family(value, many):
    """Whether any value is an ascending list of 1 to 9 different sets of lots on so many outcomes."""
    if not isinstance(value, (list, tuple)) or not 1 <= len(value) <= MOST_SETS:
        return False
    if not all([is_set(item, many) for item in value]):
        return False
    return is_ascending([list(item) for item in value])


def is_set(value, many):
    """Whether any value is an ascending list of 1 to 8 different lots on so many outcomes."""
    if not isinstance(value, (list, tuple)) or not 1 <= len(value) <= MOST_CORNERS:
        return False
    return all([is_lot_of(many, lot) for lot in value]) and is_ascending(value)


def is_ascending(items):
    """Whether each item is less than the next one."""
    return all([one < other for one, other in zip(items, items[1:])])

"""Courses: how a body is gone through, from one row to the next."""

from evenpatch.boards import Terrain
from evenpatch.bodies import bodies_of
from evenpatch.kinds import is_tuple_of, is_whole, is_within
from evenpatch.meaning import holds, worth_of

MOST_GROUNDS = 64


class Ground:
    """What webs of one body have in common whose rows have the same moves: these, and what has been worked out of them.

    `row_moves` has the moves of rows, `numbers` their numbers, `ahead` and `frame_ahead` the rows to which they lead,
    `terrain` their short moves, `layouts` what begins at places and `entries` the same by what there is ahead of it,
    `corners` those of lots, `families` what comes from places and `lists` what comes from all stores, for webs with the
    same owners.
    """

    def __init__(self, never):
        self.terrain = Terrain(never)
        self.row_moves = {}
        self.numbers = {}
        self.ahead = {}
        self.frame_ahead = {}
        self.is_begun = False
        self.layouts = {}
        self.entries = {}
        self.corners = {}
        self.families = {}
        self.lists = {}


class Course:
    """The statements of a body over a space, each with what comes behind it; None is the end of the body.

    Each statement has a number. Its path and the statement itself stand in `paths` and `told`, the number of what comes
    behind it in `after`, and those of what its bodies begin with in `inner`. `calls` are the units that are called,
    `spinners` the parties that spin and `choosers` those that choose, each once, ascending.
    """

    def __init__(self, space, body):
        self.space = space
        self.never = space.never
        self.paths = []
        self.told = []
        self.after = []
        self.inner = []
        self._numbers = {}
        self._worths = [space.values_of(store) for store in space.stores()]
        self._grounds = {}
        self._firsts = {}
        self._ranks = {}
        self.start = self._laid(body, (), None)
        self.calls = sorted(set([statement[1] for statement in self.told if statement[0] == "call"]))
        self.choosers = sorted(set([statement[1] for statement in self.told if statement[0] == "choose"]))
        self.spinners = sorted(set([statement[1] for statement in self.told if statement[0] == "spin"]))

    def _laid(self, body, ahead, after):
        """Lays the statements of a body; the number of what it begins with."""
        first = after
        for at in reversed(range(len(body))):
            first = self._laid_one(body[at], (*ahead, at), first)
        return first

    def _laid_one(self, statement, path, after):
        number = len(self.told)
        self._numbers[path] = number
        self.paths.append(path)
        self.told.append(statement)
        self.after.append(after)
        self.inner.append(())
        behind = number if statement[0] == "while" else after
        starts = []
        for index, body in enumerate(bodies_of(statement)):
            starts.append(self._laid(body, (*path, index), behind))
        self.inner[number] = tuple(starts)
        return number

    def ground_for(self, key):
        """What all webs of the body with a key have in common; made once, as long as there are not many of them."""
        if key not in self._grounds:
            if len(self._grounds) >= MOST_GROUNDS:
                self._grounds.clear()
            self._grounds[key] = Ground(self.never)
        return self._grounds[key]

    def way(self, number, store):
        """The tuple (number, store) of the first row to which a way from a statement leads, or (None, store)."""
        while number is not None:
            statement = self.told[number]
            kind = statement[0]
            if kind == "set":
                worth = worth_of(statement[2], self._worths[store])
                store = self.space.with_value(store, statement[1], worth)
                number = self.after[number]
            elif kind == "if":
                number = self.inner[number][0 if holds(statement[1], self._worths[store]) else 1]
            elif kind == "while" and not holds(statement[1], self._worths[store]):
                number = self.after[number]
            else:
                return number, store
        return None, store

    def leads(self, number, store):
        """The place to which a way from a statement leads."""
        found, left = self.way(number, store)
        if found is None:
            return left
        return self.paths[found], left

    def first(self, store):
        """The place to which the way from the beginning of the body leads."""
        if store not in self._firsts:
            self._firsts[store] = self.leads(self.start, store)
        return self._firsts[store]

    def behind(self, path, outcome):
        """The place to which an outcome leads behind a statement."""
        if outcome == self.never:
            return outcome
        return self.leads(self.after[self._numbers[path]], outcome)

    def number_of(self, path):
        """The number of the statement with a path."""
        return self._numbers[path]

    def number_at(self, path, store):
        """A number for a path and a store; numbers are ordered as tuples of both are."""
        if path not in self._ranks:
            for rank, one in enumerate(sorted(self.paths)):
                self._ranks[one] = rank
        return self._ranks[path] * self.never + store

    def statement_at(self, path):
        """The statement with a path."""
        return self.told[self._numbers[path]]

    def is_row(self, value):
        """Whether any value is a row that is no set row."""
        return is_tuple_of(value, 2) and self.is_path(value[0]) and self.is_row_at(value[0], value[1])

    def is_path(self, value):
        """Whether any value is the path of a statement."""
        if not isinstance(value, tuple) or not all([is_whole(item) for item in value]):
            return False
        return value in self._numbers

    def is_row_at(self, path, store):
        """Whether a path and any value as a store make a row."""
        if not is_within(store, 0, self.never - 1):
            return False
        statement = self.statement_at(path)
        if statement[0] == "while":
            return holds(statement[1], self._worths[store])
        return statement[0] != "set" and statement[0] != "if"

    def is_call(self, value):
        """Whether any value is the row of a call."""
        return self.is_row(value) and self.statement_at(value[0])[0] == "call"

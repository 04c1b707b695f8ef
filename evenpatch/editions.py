"""Editions of units, and what a bundle of them is made of."""

from evenpatch.bodies import count_of, walked
from evenpatch.checks import need_body
from evenpatch.compiler import code_of, numbers_of
from evenpatch.courses import Course
from evenpatch.errors import InvalidBody
from evenpatch.kinds import is_whole
from evenpatch.trees import MOST_IN_ALL

MOST_EDITIONS = 12


class Edition:
    """A body of a unit with its number, and with the tuple of the bundle in which it is, `()` if in none.

    Its course and its code are made when they are needed.
    """

    def __init__(self, space, number, body, bundle, is_inner):
        self.number = number
        self.body = body
        self.bundle = bundle
        self.is_inner = is_inner
        self._space = space
        self._course = None
        self._code = None
        self._numbers = {}
        self._paths = {}

    def course(self):
        """The course of the body."""
        if self._course is None:
            self._course = Course(self._space, self.body)
        return self._course

    def code(self):
        """The code of the body."""
        if self._code is None:
            self._code = code_of(self.body)
            self._numbers = {path: at for path, at in numbers_of(self.body)}
            self._paths = {at: path for path, at in self._numbers.items()}
        return self._code

    def told_course(self, course):
        """Takes what surely is the course of the body."""
        self._course = course

    def is_place(self, value, store):
        """Whether any value is a place of the body with a store, perhaps its end there."""
        if is_whole(value):
            return value == store
        return self.course().is_row(value) and value[1] == store

    def is_call_of(self, value, unit, store):
        """Whether any value is the row of a call of a unit with a store."""
        course = self.course()
        return course.is_call(value) and value[1] == store and course.statement_at(value[0])[1] == unit

    def number_at(self, place):
        """The number of the row of code at a place."""
        code = self.code()
        if is_whole(place):
            return len(code.rows) - 1
        return self._numbers[place[0]]

    def place_at(self, at, store):
        """The place of a row of code that asks, with a store."""
        self.code()
        if at in self._paths:
            return self._paths[at], store
        return store


def doors_of(system, bodies):
    """The list of the doors of a bundle, in the order of the units."""
    units = [unit for unit, body in system[2]]
    called = {units[-1]: True}
    for unit, body in system[2]:
        if unit not in bodies:
            for _, statement in walked(body, ()):
                if statement[0] == "call":
                    called[statement[1]] = True
    return [unit for unit in units if unit in bodies and unit in called]


def need_bodies(system, bodies):
    """Refuses what is no bundle for a system, however many editions there are; the bodies as a new dict, in order."""
    units = [unit for unit, body in system[2]]
    if not isinstance(bodies, dict) or len(bodies) == 0 or not all([key in units for key in bodies]):
        raise InvalidBody(bodies)
    kept = {unit: bodies[unit] for unit in units if unit in bodies}
    if len(doors_of(system, kept)) == 0:
        raise InvalidBody(bodies)
    for unit, body in kept.items():
        need_body(system, unit, body)
    if sum([count_of(kept.get(unit, body)) for unit, body in system[2]]) > MOST_IN_ALL:
        raise InvalidBody(bodies)
    return kept

"""Editions of units, and what a bundle of them is made of."""

from evenpatch.bodies import count_of
from evenpatch.checks import with_body
from evenpatch.compiler import code_of, numbers_of
from evenpatch.courses import Course
from evenpatch.errors import InvalidBody
from evenpatch.kinds import is_whole
from evenpatch.trees import MOST_IN_ALL
from evenpatch.workshop import calls_in

MOST_EDITIONS = 12


class Edition:
    """A body of a unit with its number, and with the tuple of the bundle in which it is, `()` if in none."""

    def __init__(self, space, number, body, bundle, is_inner):
        self.number = number
        self.body = body
        self.bundle = bundle
        self.is_inner = is_inner
        self.code = code_of(body)
        self.course = Course(space, body)
        self._numbers = {path: at for path, at in numbers_of(body)}
        self._paths = {at: path for path, at in self._numbers.items()}

    def is_place(self, value, store):
        """Whether any value is a place of the body with a store, perhaps its end there."""
        if is_whole(value):
            return value == store
        return self.course.is_row(value) and value[1] == store

    def is_call_of(self, value, unit, store):
        """Whether any value is the row of a call of a unit with a store."""
        return self.course.is_call(value) and value[1] == store and self.course.statement_at(value[0])[1] == unit

    def number_at(self, place):
        """The number of the row of code at a place."""
        if is_whole(place):
            return len(self.code.rows) - 1
        return self._numbers[place[0]]

    def place_at(self, at, store):
        """The place of a row of code that asks, with a store."""
        if at in self._paths:
            return self._paths[at], store
        return store


def doors_of(system, bodies):
    """The list of the doors of a bundle, in the order of the units."""
    units = [unit for unit, body in system[2]]
    called = {units[-1]: True}
    for unit, body in system[2]:
        if unit not in bodies:
            for other in calls_in(body):
                called[other] = True
    return [unit for unit in units if unit in bodies and unit in called]


def need_bodies(system, bodies):
    """Refuses what is no bundle for a system, however many editions there are; the bodies as a new dict, in order."""
    units = [unit for unit, body in system[2]]
    if not isinstance(bodies, dict) or len(bodies) == 0 or not all([key in units for key in bodies]):
        raise InvalidBody(bodies)
    kept = {unit: bodies[unit] for unit in units if unit in bodies}
    if len(doors_of(system, kept)) == 0:
        raise InvalidBody(bodies)
    for unit, body in kept.items():
        with_body(system, unit, body)
    if sum([count_of(kept.get(unit, body)) for unit, body in system[2]]) > MOST_IN_ALL:
        raise InvalidBody(bodies)
    return kept

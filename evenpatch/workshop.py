"""Workshops: the families of the units of one system, each worked out once."""

from evenpatch.bodies import walked
from evenpatch.cones import is_mixed
from evenpatch.courses import Course
from evenpatch.errors import TooRich
from evenpatch.prospects import Prospect
from evenpatch.spaces import Space
from evenpatch.webs import MOST_CORNERS, MOST_SETS, Web


class Workshop:
    """The courses and the families of the units of a fair system."""

    def __init__(self, system):
        self.system = system
        self.space = Space(system[1])
        self.units = [unit for unit, body in system[2]]
        self.bodies = dict(system[2])
        self._courses = {}
        self._kin = {}
        self._called = {}

    def course_of(self, unit):
        """The course of the body of a unit."""
        if unit not in self._courses:
            self._courses[unit] = Course(self.space, self.bodies[unit])
        return self._courses[unit]

    def needed(self, calls):
        """The units of the list `calls`, those that they call, and so on, in the order of the system."""
        found = {}
        waiting = list(calls)
        while waiting:
            unit = waiting.pop()
            if unit not in found:
                found[unit] = True
                waiting.extend(calls_in(self.bodies[unit]))
        return [unit for unit in self.units if unit in found]

    def need(self, calls, side, view):
        """Refuses what is too much in the units that are needed for these calls."""
        for unit in self.needed(calls):
            self.families_of(unit, side, view)

    def families_of(self, unit, side, view):
        """For each store the sets that a unit brings where it is called, if they are not too rich.

        What units that it calls bring has been asked for ahead.
        """
        key = (unit, side, view)
        if key not in self._called:
            self._called[key] = self._kin_of(unit, side, view).poor()
        return self._called[key]

    def sets_of(self, unit, side, view):
        """For each store the family of a published unit, however rich, as tuples (set, plan)."""
        self.need(calls_in(self.bodies[unit]), side, view)
        return self._kin_of(unit, side, view).all_families()

    def sets_for(self, unit, body, side, view):
        """For each store the family of another body of a unit over the published units, as tuples (set, plan)."""
        return Kin(self.web_by(body, side, view), unit).all_families()

    def _kin_of(self, unit, side, view):
        """The Kin of a published unit, made once."""
        key = (unit, side, view)
        if key not in self._kin:
            self._kin[key] = Kin(self.web_over(self.course_of(unit), self.bodies[unit], side, view), unit)
        return self._kin[key]

    def web_over(self, course, body, side, view):
        """The web of a body over the families of the units that it calls."""
        families = {unit: self.families_of(unit, side, view) for unit in calls_in(body)}
        return Web(course, side, families, view)

    def web_of(self, unit, side, view):
        """The web of a published unit; all units that are needed for it are refused if they are too much."""
        return self.web_for(self.bodies[unit], self.course_of(unit), side, view)

    def web_by(self, body, side, view):
        """The web of any body over the published units, as `web_for` makes it."""
        return self.web_for(body, Course(self.space, body), side, view)

    def web_for(self, body, course, side, view):
        """The web of any body over the published units; those that are needed are refused if they are too much."""
        self.need(calls_in(body), side, view)
        return self.web_over(course, body, side, view)


class Kin:
    """The families of a unit over a web, each worked out once for all stores from which a way leads to one place."""

    def __init__(self, web, unit):
        self._web = web
        self._unit = unit
        self._found = {}

    def family(self, store):
        """The family from a store, a list of tuples (set, plan), ascending."""
        place = self._web.first(store)
        if place not in self._found:
            self._found[place] = family_among(Prospect(self._web, place).sets(self._unit, store))
        return self._found[place]

    def all_families(self):
        """For each store the family from it."""
        return [self.family(store) for store in range(self._web.never)]

    def poor(self):
        """For each store the sets of the family from it, if they are not too rich for a unit that is called."""
        found = []
        for store in range(self._web.never):
            sets = [lots for lots, plan in self.family(store)]
            need_poor(sets, self._unit, store, self._web.side)
            found.append(sets)
        return found


def calls_in(body):
    """The names of the units that are called in a body, each once."""
    found = {}
    for _, statement in walked(body, ()):
        if statement[0] == "call":
            found[statement[1]] = True
    return list(found)


def need_poor(sets, unit, store, side):
    """Refuses too many sets, and then sets of too many lots, for a unit that is called."""
    if len(sets) > MOST_SETS:
        raise TooRich(unit, store, side, len(sets))
    for lots in sets:
        if len(lots) > MOST_CORNERS:
            raise TooRich(unit, store, side, len(lots))


def family_among(sets):
    """Those of the tuples (set, plan), ascending by sets, in whose polygon no other set has all its lots."""
    found = []
    for lots, plan in sorted(sets):
        others = [other for other, _ in sets if other != lots]
        if not has_within(lots, others):
            found.append((lots, plan))
    return found


def has_within(lots, others):
    """Whether the polygon of some lots has all lots of one of other sets."""
    if len(lots) == 1:
        return False
    known = {lot: True for lot in lots}
    for other in others:
        if all_within(lots, known, other):
            return True
    return False


def all_within(lots, known, other):
    """Whether all lots of another set lie in the polygon of some lots; what is found of lots is kept in `known`."""
    for lot in other:
        if lot not in known:
            known[lot] = is_mixed(lots, lot)
        if not known[lot]:
            return False
    return True

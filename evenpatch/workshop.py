"""Workshops: the families of the units of one system, each worked out once."""

from evenpatch.courses import Course
from evenpatch.errors import TooRich
from evenpatch.pairs import Encounters
from evenpatch.prospects import family_from
from evenpatch.rows import with_last
from evenpatch.spaces import Space
from evenpatch.webs import MOST_CORNERS, MOST_SETS, Web

MOST_COURSES = 60
MOST_LISTS = 60


class Workshop:
    """The courses and the families of the units of a fair system."""

    def __init__(self, system):
        self.system = system
        self.space = Space(system[1])
        self.units = [unit for unit, body in system[2]]
        self.bodies = dict(system[2])
        self.encounters = Encounters()
        self._courses = {}
        self._others = []
        self._kin = {}
        self._called = {}
        self._lists = []
        self._many_lists = 0

    def course_of(self, unit):
        """The course of the body of a unit."""
        if unit not in self._courses:
            self._courses[unit] = Course(self.space, self.bodies[unit])
        return self._courses[unit]

    def course_by(self, body):
        """The course of any body; those of published ones and of the last other ones are kept."""
        for unit in self.units:
            if self.bodies[unit] == body:
                return self.course_of(unit)
        for other, course in self._others:
            if other == body:
                return course
        course = Course(self.space, body)
        self._others = with_last(self._others, (body, course), MOST_COURSES)
        return course

    def needed(self, calls):
        """The units of the list `calls`, those that they call, and so on, in the order of the system."""
        found = {}
        waiting = list(calls)
        while waiting:
            unit = waiting.pop()
            if unit not in found:
                found[unit] = True
                waiting.extend(self.course_of(unit).calls)
        return [unit for unit in self.units if unit in found]

    def need(self, calls, side, view):
        """Refuses what is too much in the units that are needed for these calls."""
        if calls:
            for unit in self.needed(calls):
                self.families_of(unit, side, view)

    def families_of(self, unit, side, view):
        """A tuple of a number and, for each store, the sets that a unit brings where it is called, if not too rich.

        Only equal families have the same number. What units that it calls bring has been asked for ahead.
        """
        key = (unit, side, view)
        if key not in self._called:
            self._called[key] = self.numbered_once(self._kin_of(unit, side, view).poor())
        return self._called[key]

    def numbered_once(self, families):
        """The tuple of the number of families, the same one for equal ones of the last ones, and the families."""
        for number, other in self._lists:
            if other == families:
                return number, other
        self._many_lists = self._many_lists + 1
        self._lists = with_last(self._lists, (self._many_lists, families), MOST_LISTS)
        return self._many_lists, families

    def sets_of(self, unit, side, view):
        """For each store the family of a published unit, however rich, as tuples (set, plan)."""
        self.need(self.course_of(unit).calls, side, view)
        return self._kin_of(unit, side, view).all_families()

    def sets_for(self, unit, body, side, view):
        """For each store the family of another body of a unit over the published units, as tuples (set, plan)."""
        return Kin(self.web_by(body, side, view), unit).all_families()

    def _kin_of(self, unit, side, view):
        """The Kin of a published unit, made once."""
        key = (unit, side, view)
        if key not in self._kin:
            self._kin[key] = Kin(self.web_over(self.course_of(unit), side, view), unit)
        return self._kin[key]

    def web_over(self, course, side, view):
        """The web of a body over the families of the units that it calls."""
        return web_with(course, side, view, {unit: self.families_of(unit, side, view) for unit in course.calls})

    def web_of(self, unit, side, view):
        """The web of a published unit; all units that are needed for it are refused if they are too much."""
        return self.web_for(self.course_of(unit), side, view)

    def web_by(self, body, side, view):
        """The web of any body over the published units, as `web_for` makes it."""
        return self.web_for(self.course_by(body), side, view)

    def web_for(self, course, side, view):
        """The web of any body over the published units; those that are needed are refused if they are too much."""
        self.need(course.calls, side, view)
        return self.web_over(course, side, view)


def web_with(course, side, view, told):
    """The web of a body; `told` has the numbers and the families of the units that it calls."""
    key = (tuple([party in side for party in course.spinners]), tuple([told[unit][0] for unit in course.calls]))
    return Web(course, side, {unit: told[unit][1] for unit in course.calls}, view, course.ground_for(key))


class Kin:
    """The families of a unit over a web."""

    def __init__(self, web, unit):
        self._web = web
        self._unit = unit

    def all_families(self):
        """For each store the family from it, a list of tuples (set, plan), ascending."""
        kept = self._web.ground.lists
        if self._web.camp not in kept:
            kept[self._web.camp] = [self._family(store) for store in range(self._web.never)]
        return kept[self._web.camp]

    def poor(self):
        """For each store the sets of the family from it, if they are not too rich for a unit that is called."""
        found = []
        for store in range(self._web.never):
            sets = [lots for lots, plan in self._family(store)]
            need_poor(sets, self._unit, store, self._web.side)
            found.append(sets)
        return found

    def _family(self, store):
        return family_from(self._web, self._web.first_from(store), self._unit, store)


def need_poor(sets, unit, store, side):
    """Refuses too many sets, and then sets of too many lots, for a unit that is called."""
    if len(sets) > MOST_SETS:
        raise TooRich(unit, store, side, len(sets))
    for lots in sets:
        if len(lots) > MOST_CORNERS:
            raise TooRich(unit, store, side, len(lots))

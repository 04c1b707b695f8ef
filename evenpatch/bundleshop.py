"""The families of a bundle: those of published units, but its own where units of the bundle are called."""

from evenpatch.editions import doors_of
from evenpatch.rivals import rivals_between
from evenpatch.workshop import Kin, web_with


class BundleShop:
    """The webs of the bodies of a bundle, which are fair, in the order of the units."""

    def __init__(self, shop, bodies):
        self.shop = shop
        self.bodies = bodies
        self.doors = doors_of(shop.system, bodies)
        self._courses = {unit: shop.course_by(body) for unit, body in bodies.items()}
        called = calls_by(list(self._courses.values()))
        self._others = [unit for unit in called if unit not in bodies]
        self._named = [unit for unit in bodies if unit in called]
        self._own = {}

    def need(self, side, view):
        """Refuses what is too much in the units that the bodies call, the published ones first."""
        self.shop.need(self._others, side, view)
        for unit in self._named:
            self.families_of(unit, side, view)

    def families_of(self, unit, side, view):
        """What `families_of` of a workshop tells, where a body of the bundle calls the unit."""
        if unit not in self.bodies:
            return self.shop.families_of(unit, side, view)
        key = (unit, side, view)
        if key not in self._own:
            self._own[key] = self.shop.numbered_once(Kin(self.web_of(unit, side, view), unit).poor())
        return self._own[key]

    def web_of(self, unit, side, view):
        """The web of a body of the bundle."""
        course = self._courses[unit]
        return web_with(course, side, view, {name: self.families_of(name, side, view) for name in course.calls})

    def rivals(self, side):
        """The list of the tuples (door, Rivals) of the doors for a side."""
        self.shop.need(calls_by([self.shop.course_of(door) for door in self.doors]), side, "S")
        self.need(side, "T")
        found = []
        for door in self.doors:
            offers = self.shop.sets_of(door, side, "S")
            counters = Kin(self.web_of(door, side, "T"), door).all_families()
            found.append((door, rivals_between(offers, counters, self.shop.encounters)))
        return found


def calls_by(courses):
    """The names of the units that are called in the bodies of some courses, each once."""
    return sorted(set([unit for course in courses for unit in course.calls]))

"""The families of a bundle: those of published units, but its own where units of the bundle are called."""

from evenpatch.courses import Course
from evenpatch.editions import doors_of
from evenpatch.rivals import Rivals
from evenpatch.webs import Web
from evenpatch.workshop import Kin, calls_in


class BundleShop:
    """The webs of the bodies of a bundle, which are fair, in the order of the units."""

    def __init__(self, shop, bodies):
        self.shop = shop
        self.bodies = bodies
        self.doors = doors_of(shop.system, bodies)
        called = calls_in_all(list(bodies.values()))
        self._others = [unit for unit in called if unit not in bodies]
        self._named = [unit for unit in bodies if unit in called]
        self._courses = {unit: Course(shop.space, body) for unit, body in bodies.items()}
        self._own = {}

    def need(self, side, view):
        """Refuses what is too much in the units that the bodies call, the published ones first."""
        self.shop.need(self._others, side, view)
        for unit in self._named:
            self.families_of(unit, side, view)

    def families_of(self, unit, side, view):
        """For each store the sets that a unit brings where a body of the bundle calls it, if they are not too rich."""
        if unit not in self.bodies:
            return self.shop.families_of(unit, side, view)
        key = (unit, side, view)
        if key not in self._own:
            self._own[key] = Kin(self.web_of(unit, side, view), unit).poor()
        return self._own[key]

    def web_of(self, unit, side, view):
        """The web of a body of the bundle."""
        families = {name: self.families_of(name, side, view) for name in calls_in(self.bodies[unit])}
        return Web(self._courses[unit], side, families, view)

    def rivals(self, side):
        """The list of the tuples (door, Rivals) of the doors for a side."""
        self.shop.need(calls_in_all([self.shop.bodies[door] for door in self.doors]), side, "S")
        self.need(side, "T")
        found = []
        for door in self.doors:
            offers = self.shop.sets_of(door, side, "S")
            counters = Kin(self.web_of(door, side, "T"), door).all_families()
            found.append((door, Rivals(offers, counters)))
        return found


def calls_in_all(bodies):
    """The names of the units that are called in some bodies, each once."""
    found = {}
    for body in bodies:
        for unit in calls_in(body):
            found[unit] = True
    return list(found)

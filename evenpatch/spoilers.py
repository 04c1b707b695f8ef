"""Spoilers: who can spoil a toss if each spin is a choice of its party."""

from evenpatch.asked import need_side_of, need_store, need_unit_of
from evenpatch.bodies import walked
from evenpatch.errors import InvalidUnit
from evenpatch.parties import rest
from evenpatch.workshop import Workshop


def spoiler(system, unit, store, side, target):
    """The side if it and the net bring the unit to its end in the target, otherwise the rest."""
    need_unit_of(system, unit)
    shop = Workshop(system)
    for other in shop.needed([unit]):
        if "draw" in [statement[0] for path, statement in walked(shop.bodies[other], ())]:
            raise InvalidUnit(unit)
    need_store(shop.space, store)
    need_side_of(system, side)
    need_store(shop.space, target)
    wanted = tuple([other == target for other in shop.space.stores()])
    if Chase(shop, side).won_from(unit, wanted)[store]:
        return side
    return rest(side, system[0])


class Chase:
    """From where a side and the net bring units to their ends in stores that they want, whatever all others choose.

    Stores that are wanted are told by a tuple of True and False, one for each store.
    """

    def __init__(self, shop, side):
        self._shop = shop
        self._side = side
        self._found = {}

    def won_from(self, unit, wanted):
        """A tuple of True and False: from which stores the unit is brought to its end in a store that is wanted."""
        key = (unit, wanted)
        if key not in self._found:
            course = self._shop.course_of(unit)
            won = self._won_rows(course, wanted)
            starts = [course.first(store) for store in self._shop.space.stores()]
            self._found[key] = tuple([is_won(place, won, wanted) for place in starts])
        return self._found[key]

    def _won_rows(self, course, wanted):
        """The dict that has the rows from which a store that is wanted is come to; what goes on for ever is not won."""
        won = {}
        left = [(path, store) for path in course.paths for store in self._shop.space.stores()
                if course.is_row_at(path, store)]
        while True:
            found = [row for row in left if self._is_won_now(course, row, won, wanted)]
            if not found:
                return won
            for row in found:
                won[row] = True
            left = [row for row in left if row not in won]

    def _is_won_now(self, course, row, won, wanted):
        """Whether a row is won by rows that are known to be."""
        path, store = row
        number = course.number_of(path)
        statement = course.told[number]
        kind = statement[0]
        if kind == "call":
            ends = [course.behind(path, end) for end in self._shop.space.stores()]
            return self.won_from(statement[1], tuple([is_won(place, won, wanted) for place in ends]))[store]
        if kind == "spin":
            stores = [course.space.with_value(store, statement[2], value) for value, weight in statement[3]]
            places = [course.leads(course.after[number], one) for one in stores]
        else:
            places = [course.leads(start, store) for start in course.inner[number]]
        told = [is_won(place, won, wanted) for place in places]
        if kind == "while" or statement[1] == 0 or statement[1] in self._side:
            return any(told)
        return all(told)


def is_won(place, won, wanted):
    """Whether a place is a store that is wanted, or a row that is won."""
    if isinstance(place, int):
        return wanted[place]
    return place in won

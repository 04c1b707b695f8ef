"""Records judged a second way: by compiled codes alone, line by line, with all rules as the document tells them."""

import re

from third import Third

from evenpatch.checks import calls_of, statements, unit_names, with_body
from evenpatch.errors import PactError

NUMBER = re.compile(r"^(0|[1-9][0-9]*)$")


def doors_plainly(system, units):
    last = unit_names(system)[-1]
    return [unit for unit in units if unit == last or any(
        unit in calls_of(system, other) for other in unit_names(system) if other not in units)]


def is_integer(value):
    return type(value) is int


def fits_editions(system, editions):
    """Whether the tuples of a list are editions as a record tells them, in their order."""
    names = unit_names(system)
    for item in editions:
        if type(item) is not tuple or len(item) != 4:
            return False
        unit, number, body, bundle = item
        if unit not in names or not is_integer(number) or not 0 <= number <= 11 or type(bundle) is not tuple:
            return False
        try:
            with_body(system, unit, body)
        except PactError:
            return False
        if bundle != ():
            units = []
            for pair in bundle:
                if type(pair) is not tuple or len(pair) != 2 or pair[0] not in names:
                    return False
                if not is_integer(pair[1]) or not 1 <= pair[1] <= 11:
                    return False
                units.append(pair[0])
            if units != [name for name in names if name in units] or (unit, number) not in bundle:
                return False
            if not doors_plainly(system, units):
                return False
    places = [(names.index(unit), number) for unit, number, _, _ in editions]
    if places != sorted(set(places)):
        return False
    for unit, number, body, bundle in editions:
        if bundle == () and (number == 0) != (body == dict(system[2])[unit]):
            return False
        for other, at, another, one in editions:
            if (other, at) != (unit, number):
                if bundle == () and one == () and unit == other and body == another:
                    return False
                if bundle != one and set(bundle) & set(one):
                    return False
            if (other, at) in bundle and one != bundle:
                return False
    return True


class Told(Third):
    """A session that goes on by lines; `fits` tells whether a line does."""

    def __init__(self, system, editions, store, first):
        bodies = {unit: {} for unit in unit_names(system)}
        self.bundles = {}
        for unit, number, body, bundle in editions:
            bodies[unit][number] = body
            self.bundles[(unit, number)] = bundle
        self.next_number = first
        self.moves = 0
        Third.__init__(self, system, bodies, lambda unit, caller: self.next_number, store)

    def is_inner(self, unit, number):
        bundle = self.bundles[(unit, number)]
        return bundle != () and unit not in doors_plainly(self.system, [name for name, _ in bundle])

    def fits(self, line):
        asked = self.asks()
        words = line.split(" ")
        if asked[0] == "choose" and words[0] == "choose":
            return len(words) == 2 and words[1] in asked[2] and self.did(words[1])
        if asked[0] in ("turn", "spin") and words[0] == asked[0]:
            if len(words) != 4 or words[2:] != ["of", str(asked[-1])] or not NUMBER.match(words[1]):
                return False
            return int(words[1]) < asked[-1] and self.did(int(words[1]))
        if asked[0] == "loop" and line == "loop":
            return self.did(None)
        if asked[0] == "back" and line == f"back {asked[1]}":
            return self.did(None)
        if asked[0] == "call" and words[:2] == ["call", asked[1]] and len(words) == 3 and NUMBER.match(words[2]):
            return self.fits_call(asked[1], int(words[2]))
        return asked[0] != "over" and words[0] == "move" and len(words) == 4 and self.fits_move(*words[1:])

    def fits_call(self, unit, number):
        if (unit, number) not in self.bundles:
            return False
        caller, elder = self.frames[-1][:2]
        bundle = dict(self.bundles[(caller, elder)])
        if unit in bundle:
            if bundle[unit] != number:
                return False
        elif self.is_inner(unit, number):
            return False
        self.next_number = number
        return self.did(None)

    def fits_move(self, unit, number, path):
        units = [frame[0] for frame in self.frames]
        if unit not in units or not NUMBER.match(number) or (unit, int(number)) not in self.bundles or self.moves == 8:
            return False
        number = int(number)
        at = units.index(unit)
        _, _, _, kept = self.frames[at]
        store = self.store if kept is None else kept
        if path == "end":
            if kept is not None:
                return False
            place = store
        else:
            if not all(NUMBER.match(part) for part in path.split(".")):
                return False
            place = (tuple(int(part) for part in path.split(".")), store)
            body = self.bodies[unit][number]
            told = dict(statements(with_body(self.system, unit, body), unit)).get(place[0])
            if told is None or not self.stands_at(told, store):
                return False
            if kept is not None and told != ("call", units[at + 1]):
                return False
        self.moves += 1
        self.move(at, number, place)
        return True

    def stands_at(self, statement, store):
        from second import true
        from free import values_in
        if statement[0] == "while":
            return true(statement[1], values_in(self.system[1], store))
        return statement[0] in ("draw", "spin", "choose", "call")

    def did(self, answer):
        self.step(answer)
        return True


def is_told(system, value):
    """Whether a value is a record; its parts are of the right kinds, but for what stands within the editions."""
    store, editions, lines = value
    names = unit_names(system)
    if not fits_editions(system, editions) or not lines:
        return False
    told = set()
    for line in lines:
        words = line.split(" ")
        if words[0] in ("call", "move") and len(words) >= 3 and NUMBER.match(words[2]):
            told.add((words[1], int(words[2])))
    if told != {(unit, number) for unit, number, _, _ in editions}:
        return False
    words = lines[0].split(" ")
    if len(words) != 3 or words[:2] != ["call", names[-1]] or not NUMBER.match(words[2]):
        return False
    first = int(words[2])
    if (names[-1], first) not in told:
        return False
    session = Told(system, editions, store, first)
    return all(session.fits(line) for line in lines[1:])

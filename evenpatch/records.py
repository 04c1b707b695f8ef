"""Records: sessions told from their beginnings on, and what the texts alone tell of them."""

from evenpatch.checks import check_system, need_body
from evenpatch.editions import MOST_EDITIONS, Edition, doors_of
from evenpatch.errors import InvalidRecord, InvalidSession, PactError
from evenpatch.kinds import is_tuple_of, is_within
from evenpatch.shelflines import number_of
from evenpatch.spaces import Space
from evenpatch.tapes import Playback, Tape
from evenpatch.trees import MOST_UNITS


def record_of(house, session):
    """The record of a session of a house."""
    if not house.has(session):
        raise InvalidSession(session)
    registry = house.registry
    store, number, _ = house.start_of(session)
    lines = [f"call {registry.last_unit()} {number}", *house.lines(session)]
    told = told_in(lines)
    editions = []
    for unit, _ in registry.published()[2]:
        for edition in registry.all_editions(unit):
            if (unit, edition.number) in told:
                editions.append((unit, edition.number, edition.body, edition.bundle))
    return store, editions, lines


def is_record(system, value):
    """Whether any value is a record of a system."""
    check_system(system)
    return playback_of(system, value) is not None


def replay(system, record):
    """The tuple of what the session of a record asks for, of its store and of its frames."""
    check_system(system)
    playback = playback_of(system, record)
    if playback is None:
        raise InvalidRecord(record)
    session = playback.session
    return session.asks(), session.store, session.places()


def told_in(lines):
    """A dict that has the tuples (unit, number) of the editions that lines tell."""
    found = {}
    for line in lines:
        words = line.split(" ")
        if (words[0] == "call" or words[0] == "move") and len(words) > 2:
            found[(words[1], number_of(words[2]))] = True
    return found


def playback_of(system, value):
    """The Playback of any value, with all lines done, if it is a record of a fair system, otherwise None."""
    space = Space(system[1])
    if not is_tuple_of(value, 3) or not is_within(value[0], 0, space.never - 1) or not is_lines(value[2]):
        return None
    if not is_editions(system, value[1]):
        return None
    editions = {}
    for unit, number, body, bundle in value[1]:
        is_inner = bundle != () and unit not in doors_of(system, dict(bundle))
        editions[(unit, number)] = Edition(space, number, body, bundle, is_inner)
    told = told_in(value[2])
    if len(told) != len(editions) or not all([key in editions for key in told]):
        return None
    playback = Playback(Tape(space, system[2][-1][0], editions), value[0])
    for line in value[2]:
        if not playback.takes(line):
            return None
    return playback


def is_lines(value):
    """Whether any value is a list of strings that is not empty."""
    if not isinstance(value, (list, tuple)) or len(value) == 0:
        return False
    return all([isinstance(line, str) for line in value])


def is_editions(system, value):
    """Whether any value is a list of editions as a record tells them."""
    if not isinstance(value, (list, tuple)) or len(value) > MOST_UNITS * MOST_EDITIONS:
        return False
    if not all([is_edition(system, item) for item in value]):
        return False
    units = [unit for unit, body in system[2]]
    places = [(units.index(unit), number) for unit, number, _, _ in value]
    if not all([one < other for one, other in zip(places, places[1:])]):
        return False
    return is_single(system, value) and is_bundled(value)


def is_edition(system, value):
    """Whether any value is a tuple (unit, number, body, bundle), told by itself."""
    units = [unit for unit, body in system[2]]
    if not is_tuple_of(value, 4) or not isinstance(value[0], str) or value[0] not in units:
        return False
    unit, number, body, bundle = value
    if not is_within(number, 0, MOST_EDITIONS - 1) or not is_body(system, unit, body):
        return False
    return isinstance(bundle, tuple) and (bundle == () or is_bundle(system, unit, number, bundle))


def is_body(system, unit, value):
    """Whether any value is a body for a unit."""
    try:
        need_body(system, unit, value)
    except PactError:
        return False
    return True


def is_bundle(system, unit, number, value):
    """Whether any tuple is a bundle with an edition."""
    units = [name for name, body in system[2]]
    for item in value:
        if not is_tuple_of(item, 2) or not isinstance(item[0], str) or item[0] not in units:
            return False
        if not is_within(item[1], 1, MOST_EDITIONS - 1):
            return False
    places = [units.index(name) for name, _ in value]
    if not all([one < other for one, other in zip(places, places[1:])]):
        return False
    return (unit, number) in value and len(doors_of(system, dict(value))) > 0


def is_single(system, editions):
    """Whether of the editions in no bundle just those with published bodies have the number 0, and no two are equal."""
    bodies = dict(system[2])
    seen = []
    for unit, number, body, bundle in editions:
        if bundle == ():
            if (number == 0) != (body == bodies[unit]) or (unit, body) in seen:
                return False
            seen.append((unit, body))
    return True


def is_bundled(editions):
    """Whether each edition that stands in a bundle has this bundle, and no two bundles cross."""
    bundles = [bundle for _, _, _, bundle in editions if bundle != ()]
    for bundle in bundles:
        for unit, number, _, other in editions:
            if (unit, number) in bundle and other != bundle:
                return False
        for other in bundles:
            if other != bundle and any([item in bundle for item in other]):
                return False
    return True

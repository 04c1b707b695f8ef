"""Pictures of houses, and houses that go on by them."""

from evenpatch.errors import InvalidLines, PactError
from evenpatch.house import House
from evenpatch.ratios import Ratio
from evenpatch.records import record_of
from evenpatch.registry import read_registry
from evenpatch.shelflines import number_of
from evenpatch.tapes import answer_told, move_told

DIGITS = "0123456789"


def picture(house):
    """The list of the lines of a house: those of its registry and those of its sessions."""
    found = list(house.registry.lines())
    for session in house.sessions():
        store, _, purses = house.start_of(session)
        found.append(session_line(session, store, purses))
        found.extend(record_of(house, session)[2])
    return found


def go_on(lines):
    """The house with this picture, with a registry of its own."""
    if not isinstance(lines, (list, tuple)) or not all([isinstance(line, str) for line in lines]):
        raise InvalidLines(lines)
    starts = [at for at, line in enumerate(lines) if line.startswith("session")]
    first = starts[0] if starts else len(lines)
    try:
        house = House(read_registry(list(lines[:first])))
        stood = [(unit, house.registry.standing(unit)) for unit, _ in house.registry.published()[2]]
        for at, start in enumerate(starts):
            end = starts[at + 1] if at + 1 < len(starts) else len(lines)
            if not is_relived(house, at, lines[start:end]):
                raise InvalidLines(lines)
    except PactError:
        raise InvalidLines(lines) from None
    for unit, number in stood:
        house.registry.stand(unit, number)
    return house


def session_line(session, store, purses):
    """The line with which a session is told to begin."""
    return " ".join([f"session {session} from {store} with"] + [str(purse) for purse in purses])


def is_relived(house, session, lines):
    """Whether lines tell the next session of a house; if so, it has come to where they tell."""
    words = lines[0].split(" ")
    if len(words) < 6 or len(lines) < 2:
        return False
    store = number_of(words[3])
    purses = [purse_of(word) for word in words[5:]]
    if None in purses or session_line(session, store, purses) != lines[0]:
        return False
    first = lines[1].split(" ")
    unit = house.registry.last_unit()
    if len(first) != 3:
        return False
    # What stands by the lines of the registry means nothing here, so that each call may begin in what is told.
    house.registry.stand(unit, number_of(first[2]))
    house.begin(store, purses)
    if f"call {unit} {house.start_of(session)[1]}" != lines[1]:
        return False
    for line in lines[2:]:
        if not is_done(house, session, line):
            return False
    return True


def is_done(house, session, line):
    """Whether a line tells what a session can do next; then it has done so."""
    words = line.split(" ")
    asked = house.asks(session)
    if words[0] == "move":
        told = move_told(line, house.frames(session), house.store_now(session))
        if told is None:
            return False
        at, number, place = told
        if at == len(house.frames(session)) - 1:
            house.move(session, number, place)
        else:
            house.move_waiting(session, at, number, place)
    elif asked[0] != words[0]:
        return False
    else:
        if asked[0] == "call" and len(words) == 3:
            let_begin(house, session, asked[1], number_of(words[2]))
        house.step(session, answer_told(words))
    return house.last_line(session) == line


def let_begin(house, session, unit, number):
    """Lets an edition of a unit stand, unless a call of the unit begins in that of a bundle now."""
    name, elder, _ = house.frames(session)[-1]
    if unit not in dict(house.registry.bundle_of(name, elder)):
        house.registry.stand(unit, number)


def purse_of(word):
    """The Ratio of a purse from 0 on that a word tells, None if it tells none."""
    top, _, bottom = word.partition("/")
    if bottom == "":
        bottom = "1"
    if top == "" or not all([sign in DIGITS for sign in top + bottom]) or int(bottom) == 0:
        return None
    return Ratio(int(top), int(bottom))

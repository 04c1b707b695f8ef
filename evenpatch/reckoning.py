"""Reckonings: what has changed what a side still forces in a session."""

from evenpatch.asked import need_payoff, need_side_of
from evenpatch.errors import InvalidSession, InvalidSide
from evenpatch.ladders import number_there
from evenpatch.records import record_of
from evenpatch.tapes import Playback, Tape


def reckoning(house, session, side, payoff):
    """The list of the tuples (kind, number) of the lines of a session's record."""
    if not house.has(session):
        raise InvalidSession(session)
    registry = house.registry
    need_side_of(registry.published(), side)
    if side not in registry.promised():
        raise InvalidSide(side)
    need_payoff(registry.space, payoff)
    store, editions, lines = record_of(house, session)
    kept = {(unit, number): registry.edition_of(unit, number) for unit, number, _, _ in editions}
    playback = Playback(Tape(registry.space, registry.last_unit(), kept), store)
    found = []
    ahead = None
    for line in lines:
        asked = None if ahead is None else playback.session.asks()
        playback.takes(line)
        gone = playback.session
        worth = number_there(house.book, gone.places(), gone.store, side, "S", payoff)
        if ahead is None:
            found.append(("begin", worth))
        else:
            found.append((kind_of(line, asked, side, worth - ahead), worth - ahead))
        ahead = worth
    return found


def kind_of(line, asked, side, change):
    """What a line is for a side; `asked` was asked ahead of it, and `change` is what it has changed."""
    word = line.split(" ")[0]
    if word == "turn" or (word == "spin" and asked[1] in side):
        return "luck"
    if word == "choose" and asked[1] in side:
        return "own"
    if word == "choose" or word == "spin":
        return "others"
    if change.top == 0:
        return "same"
    return "gift" if change.top > 0 else "paid"

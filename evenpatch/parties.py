"""Parties and sides."""

from evenpatch.errors import InvalidParty, InvalidSide
from evenpatch.kinds import is_within

FEWEST = 2
MOST = 3


def is_side(value):
    """Whether any value is a side of three parties."""
    return is_side_of(value, MOST)


def sides(parties):
    """The ascending list of all sides of so many parties."""
    need_parties(parties)
    found = [()]
    for party in range(1, parties + 1):
        found = found + [(*side, party) for side in found]
    return sorted(found)


def rest(side, parties):
    """The side of all parties that are not in a side."""
    need_side(side, parties)
    return tuple([party for party in range(1, parties + 1) if party not in side])


def larger(side, parties):
    """The ascending list of all sides that have all parties of a side."""
    need_side(side, parties)
    return [other for other in sides(parties) if is_larger(other, side)]


def is_larger(value, side):
    """Whether a side has all parties of another one."""
    return all([party in value for party in side])


def is_side_of(value, parties):
    """Whether any value is a side of so many parties, a number that is not asked here."""
    if not isinstance(value, tuple) or not all([is_within(party, 1, parties) for party in value]):
        return False
    return list(value) == sorted(set(value))


def need_parties(parties):
    """Refuses what is no number of parties."""
    if not is_within(parties, FEWEST, MOST):
        raise InvalidParty(parties)


def need_side(side, parties):
    """Refuses what is no number of parties, and then what is no side of so many."""
    need_parties(parties)
    if not is_side_of(side, parties):
        raise InvalidSide(side)

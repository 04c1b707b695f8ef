"""Guides: what a side, and what its enemy, takes in a running session."""

from evenpatch.ladders import Ladder, ends_by, need_asked, turned


class Guide:
    """Tells what to take in a session for a payoff, as it was when the guide was made."""

    def __init__(self, house, session, side, payoff):
        need_asked(house, session, side, payoff)
        self._house = house
        self._session = session
        self._side = side
        self._payoff = tuple(payoff)

    def label(self):
        """The label that the side takes where the session stands now, None where it has none to take."""
        ladder = self._ladder("S")
        asked = self._house.asks(self._session)
        if asked[0] != "choose" or asked[1] not in self._side:
            return None
        return asked[2][ladder.best_index()]

    def reply(self):
        """The label or the part that the enemy takes where the session stands now, None where it has none to take."""
        ladder = self._ladder("T")
        asked = self._house.asks(self._session)
        if (asked[0] != "choose" and asked[0] != "spin") or asked[1] in self._side:
            return None
        index = ladder.best_index()
        if asked[0] == "choose":
            return asked[2][index]
        return self._first_part(index)

    def _first_part(self, index):
        """The lowest part of the wheel, where the session stands at a spin, that belongs to the pair with an index."""
        unit, number, place = self._house.frames(self._session)[-1]
        statement = self._house.registry.edition_of(unit, number).course().statement_at(place[0])
        return sum([weight for value, weight in statement[-1][:index]])

    def _ladder(self, view):
        ends = ends_by(turned(self._payoff, view))
        return Ladder(self._house.book, self._house.frames(self._session), self._side, view, ends)

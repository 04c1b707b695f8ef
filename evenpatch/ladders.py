"""Ladders: the frames of a session, one above another, each with its field."""

from evenpatch.asked import need_payoff, need_side_of
from evenpatch.errors import InvalidSession
from evenpatch.packs import moved_by
from evenpatch.ratios import Ratio


class Ladder:
    """Frames, tuples (unit, number, place), the lowest first, which goes by the packs `ends` of the outcomes."""

    def __init__(self, book, frames, side, view, ends):
        # What is too much for the web of any frame is told ahead of all else.
        for unit, number, _ in frames:
            book.web_at(unit, number, side, view)
        self._frames = frames
        self.fields = []
        self._ends = ends
        for unit, number, _ in frames:
            if self.fields:
                self._ends = self.fields[-1].handed_up(frames[len(self.fields) - 1][2])
            self.fields.append(book.field(unit, number, side, view, self._ends))

    def top_pack(self):
        """The pack of the place of the last frame."""
        place = self._frames[-1][2]
        self.fields[-1].need(place)
        return self.fields[-1].packs[place]

    def best_index(self):
        """The index of the move to take at the row where the last frame stands."""
        return self.fields[-1].best_index(self._frames[-1][2])


def need_asked(house, session, side, payoff):
    """Refuses what is no session, no side or no payoff."""
    if not house.has(session):
        raise InvalidSession(session)
    need_side_of(house.registry.published(), side)
    need_payoff(house.registry.space, payoff)


def ends_by(payoff):
    """The packs of the outcomes for a payoff, counted from never."""
    return tuple([(1, item - payoff[-1]) for item in payoff])


def turned(payoff, view):
    """The payoff as the one who leads in a view sees it, a new list."""
    if view == "S":
        return list(payoff)
    return [-item for item in payoff]


def number_there(book, frames, store, side, view, payoff):
    """The first number of what the last of some frames brings, for a payoff as the leader sees it."""
    ladder = Ladder(book, frames, side, view, ends_by(payoff))
    if not frames:
        return Ratio(payoff[store])
    pack = moved_by(ladder.top_pack(), payoff[-1])
    return Ratio(pack[1], pack[0])

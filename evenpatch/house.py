"""Houses: sessions that go on with one registry, with purses and judged moves."""

from evenpatch.asked import need_store
from evenpatch.errors import InvalidAnswer, InvalidPurse, InvalidSession, NotAsked, NotLet, TooMany
from evenpatch.fields import FieldBook
from evenpatch.kinds import is_row_of, is_within
from evenpatch.machine import Session
from evenpatch.pairs import Encounters
from evenpatch.prospects import family_from
from evenpatch.ratios import as_ratio, is_number
from evenpatch.rivals import Rivals

MOST_SESSIONS = 20


class House:
    """Sessions, numbered from 0 on, with one registry."""

    def __init__(self, registry):
        self.registry = registry
        self.book = FieldBook(registry)
        self._guests = []

    def begin(self, store, purses=None):
        """Begins a session in a store, with purses; its number."""
        need_store(self.registry.space, store)
        many = len(self.registry.promised())
        if purses is None:
            purses = [0] * many
        if not is_purses(purses, many):
            raise InvalidPurse(purses)
        if len(self._guests) >= MOST_SESSIONS:
            raise TooMany(MOST_SESSIONS + 1)
        self._guests.append(Guest(self.registry, store, [as_ratio(purse) for purse in purses]))
        return len(self._guests) - 1

    def sessions(self):
        """The list of the numbers of all sessions."""
        return list(range(len(self._guests)))

    def has(self, value):
        """Whether any value is the number of a session."""
        return is_within(value, 0, len(self._guests) - 1)

    def step(self, session, answer=None):
        """Does one step of a session."""
        guest = self._guest(session)
        kind = guest.session.asks()[0]
        if kind == "over":
            raise NotAsked()
        if kind == "choose":
            guest.session.choose(answer)
        elif kind == "turn" or kind == "spin":
            guest.turn(kind, answer)
        elif answer is not None:
            raise InvalidAnswer(answer)
        elif kind == "call":
            guest.call()
        else:
            guest.session.go()

    def purses_left(self, session):
        """The list of a session's purses as they are now."""
        return list(self._guest(session).purses)

    def asks(self, session):
        """What a session asks for."""
        return self._guest(session).session.asks()

    def lines(self, session):
        """The list of a session's lines."""
        return self._guest(session).session.lines()

    def last_line(self, session):
        """The last one of a session's lines, None if there is none."""
        return self._guest(session).session.last_line()

    def store_now(self, session):
        """The store that a session is in."""
        return self._guest(session).session.store

    def start_of(self, session):
        """The tuple of the store, the edition and the purses with which a session began."""
        guest = self._guest(session)
        return guest.session.began, guest.session.edition, list(guest.first_purses)

    def frames(self, session):
        """The list of the tuples (unit, number, place) of the calls that have begun and have not ended."""
        return self._guest(session).session.places()

    def move(self, session, number, place):
        """Lets the last call go on at another place, if this is let by for each promised side."""
        guest = self._guest(session).session
        guest.need_move(number, place)
        guest.need_move_left()
        unit, elder, old = guest.places()[-1]
        self._need_frame(unit, number, place)
        for side in self.registry.promised():
            webs = self._both_webs(unit, elder, number, side)
            need_met(webs, (old, place), unit, guest.store)
        guest.move(number, place)

    def move_waiting(self, session, at, number, place):
        """Lets a call that waits wait elsewhere, if this is let by for each promised side."""
        guest = self._guest(session).session
        guest.need_move_waiting(at, number, place)
        guest.need_move_left()
        unit, elder, old = guest.places()[at]
        self._need_frame(unit, number, place)
        for side in self.registry.promised():
            webs = self._both_webs(unit, elder, number, side)
            for store in self.registry.space.stores():
                need_met(webs, (webs[0].behind(old, store), webs[1].behind(place, store)), unit, store)
        guest.move_waiting(at, number, place)

    def unused(self):
        """The list of the tuples (unit, number) of all editions that neither stand nor are gone on with."""
        found = []
        for unit, _ in self.registry.published()[2]:
            for edition in self.registry.all_editions(unit)[1:]:
                kin = edition.bundle
                if kin == ():
                    kin = ((unit, edition.number),)
                if not any([self._is_used(other, number) for other, number in kin]):
                    found.append((unit, edition.number))
        return found

    def _is_used(self, unit, number):
        if self.registry.standing(unit) == number:
            return True
        frames = [frame for guest in self._guests for frame in guest.session.frames()]
        return any([frame[:2] == (unit, number) for frame in frames])

    def _guest(self, session):
        if not self.has(session):
            raise InvalidSession(session)
        return self._guests[session]

    def _need_frame(self, unit, number, place):
        """Refuses a place with too many rows of a frame."""
        self.registry.web_at(unit, number, self.registry.promised()[0], "S").frame_rows(place)

    def _both_webs(self, unit, elder, number, side):
        """The web of an elder edition in the view "S" and that of another one in the view "T"."""
        return self.registry.web_at(unit, elder, side, "S"), self.registry.web_at(unit, number, side, "T")


class Guest:
    """A session of a house with its purses."""

    def __init__(self, registry, store, purses):
        self.first_purses = purses
        self.purses = purses
        self._registry = registry
        unit = registry.last_unit()
        is_paid = self._pay(unit, registry.standing(unit), store)
        self.session = Session(registry, store, is_published=not is_paid)

    def turn(self, kind, part):
        """Goes on at a draw or a spin."""
        if kind == "turn":
            self.session.turn(part)
        else:
            self.session.spin(part)

    def call(self):
        """Begins the call that is asked for, in the published edition if the purses cannot pay for it."""
        unit, number, _ = self.session.frames()[-1]
        other = self.session.asks()[1]
        is_paid = self._pay(other, self._registry.called(unit, number, other), self.session.store)
        self.session.go(is_published=not is_paid)

    def _pay(self, unit, number, store):
        """Takes the costs of an edition off the purses, if each purse can pay; whether it can."""
        costs = self._registry.costs_of(unit, number, store)
        for purse, cost in zip(self.purses, costs):
            if purse.below(cost):
                return False
        self.purses = [purse - cost for purse, cost in zip(self.purses, costs)]
        return True


def is_purses(value, many):
    """Whether any value is a list of so many purses."""
    return is_row_of(value, many) and all([is_number(item) and as_ratio(item).top >= 0 for item in value])


def need_met(webs, places, unit, store):
    """Refuses two places, one of each of two webs, that do not meet; unit and store are for errors."""
    sets = family_from(webs[0], places[0], unit, store)
    counters = family_from(webs[1], places[1], unit, store)
    attack = Rivals([sets], [counters], Encounters()).attack()
    if attack is not None:
        _, plan, payoff, answer = attack
        raise NotLet(webs[0].side, store, plan, payoff, answer)

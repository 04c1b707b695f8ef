"""Tapes: editions that records tell, and sessions that go on by lines."""

from evenpatch.errors import InvalidEdition, PactError
from evenpatch.machine import Session
from evenpatch.shelflines import number_of


class Tape:
    """A shelf for one session: each call begins in the edition of which the number is told ahead of it.

    `editions` is a dict from tuples (unit, number) to Editions.
    """

    def __init__(self, space, unit, editions):
        self.space = space
        self._told = 0
        self._last_unit = unit
        self._editions = editions

    def last_unit(self):
        """The name of the last unit."""
        return self._last_unit

    def standing(self, unit):
        """The number of the edition in which the first call begins."""
        return self._told

    def called(self, unit, number, other):
        """The number of the edition in which the next call begins."""
        return self._told

    def tell(self, number):
        """Lets the next call begin in the edition with a number."""
        self._told = number

    def edition_of(self, unit, number):
        """The Edition of a unit with a number."""
        if (unit, number) not in self._editions:
            raise InvalidEdition(number)
        return self._editions[(unit, number)]

    def is_called(self, caller, unit, number):
        """Whether an edition may be told for a call from an edition, or, for None, for the first call."""
        if (unit, number) not in self._editions:
            return False
        bundle = {} if caller is None else dict(caller.bundle)
        if unit in bundle:
            return bundle[unit] == number
        return not self._editions[(unit, number)].is_inner


class Playback:
    """A session that goes on by the lines of a record."""

    def __init__(self, tape, store):
        self.session = None
        self._tape = tape
        self._began = store

    def takes(self, line):
        """Whether a line fits behind those ahead of it; if so, what it tells is done."""
        words = line.split(" ")
        try:
            if words[0] == "call":
                is_done = self._call(words)
            elif self.session is None:
                is_done = False
            elif words[0] == "move":
                is_done = self._move(line)
            else:
                is_done = self._step(words)
        except PactError:
            return False
        # What is done has a line of its own, so a line that is written otherwise does not fit.
        return is_done and self._last_line() == line

    def _last_line(self):
        found = self.session.last_line()
        if found is None:
            unit, number, _ = self.session.frames()[0]
            return f"call {unit} {number}"
        return found

    def _call(self, words):
        if len(words) != 3:
            return False
        unit = words[1]
        told = number_of(words[2])
        self._tape.tell(told)
        if self.session is None:
            if unit != self._tape.last_unit() or not self._tape.is_called(None, unit, told):
                return False
            self.session = Session(self._tape, self._began)
            return True
        if self.session.asks() != ("call", unit):
            return False
        name, number, _ = self.session.frames()[-1]
        if not self._tape.is_called(self._tape.edition_of(name, number), unit, told):
            return False
        self.session.go()
        return True

    def _move(self, line):
        told = move_told(line, self.session.places(), self.session.store)
        if told is None:
            return False
        at, number, place = told
        if at == len(self.session.frames()) - 1:
            self.session.move(number, place)
        else:
            self.session.move_waiting(at, number, place)
        return True

    def _step(self, words):
        kind = self.session.asks()[0]
        if kind == "call" or kind != words[0]:
            return False
        answer = answer_told(words)
        if kind == "choose":
            self.session.choose(answer)
        elif kind == "turn":
            self.session.turn(answer)
        elif kind == "spin":
            self.session.spin(answer)
        else:
            self.session.go()
        return True


def answer_told(words):
    """The label or the part that the words of a line tell, None for other lines."""
    if words[0] == "choose" and len(words) > 1:
        return words[1]
    if (words[0] == "turn" or words[0] == "spin") and len(words) > 1:
        return number_of(words[1])
    return None


def move_told(line, places, store):
    """The tuple (index, number, place) of the move that a line tells, of the frame with this index; None if of none.

    `places` has the tuples (unit, number, place) of the frames, `store` is that of the session.
    """
    words = line.split(" ")
    units = [unit for unit, _, _ in places]
    if len(words) != 4 or words[1] not in units:
        return None
    at = units.index(words[1])
    if at < len(units) - 1:
        store = places[at][2][1]
    place = store
    if words[3] != "end":
        place = (tuple([number_of(word) for word in words[3].split(".")]), store)
    return at, number_of(words[2]), place

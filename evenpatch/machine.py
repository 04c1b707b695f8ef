"""Shelves of editions, and sessions that go on with them."""

from evenpatch.asked import need_store
from evenpatch.checks import check_system, need_body
from evenpatch.editions import MOST_EDITIONS, Edition, doors_of, need_bodies
from evenpatch.errors import InvalidAnswer, InvalidEdition, InvalidPart, InvalidRow, InvalidUnit, NotAsked, TooMany
from evenpatch.kinds import is_within
from evenpatch.meaning import value_of_part
from evenpatch.running import question, settle
from evenpatch.spaces import Space

MOST_MOVES = 8


class Shelf:
    """Editions of the units of a system, one of each unit standing."""

    def __init__(self, system):
        check_system(system)
        self._system = system
        self.space = Space(system[1])
        self._editions = {unit: [Edition(self.space, 0, body, (), False)] for unit, body in system[2]}
        self._standing = {unit: 0 for unit, body in system[2]}

    def published(self):
        """The published system."""
        return self._system

    def standing(self, unit):
        """The number of the edition of a unit that stands."""
        self._need_unit(unit)
        return self._standing[unit]

    def stand(self, unit, number):
        """Lets an edition of a unit stand."""
        if self.edition_of(unit, number).is_inner:
            raise InvalidEdition(number)
        self._standing[unit] = number

    def editions(self, unit):
        """The list of the tuples (number, body) of all editions of a unit."""
        self._need_unit(unit)
        return [(edition.number, edition.body) for edition in self._editions[unit]]

    def body_at(self, unit, number):
        """The body of an edition."""
        return self.edition_of(unit, number).body

    def code_at(self, unit, number):
        """The code of an edition."""
        return self.edition_of(unit, number).code()

    def exchange(self, unit, body):
        """Lets an edition with this body stand, a new one if there is none; its number."""
        self.need_body(unit, body)
        edition = self.equal_edition(unit, body)
        if edition is None:
            self.need_room([unit])
            return self.lay_edition(unit, body)
        self._standing[unit] = edition.number
        return edition.number

    def exchange_all(self, bodies):
        """Lays a bundle of editions, whose doors come to stand; the tuple of the tuples (unit, number)."""
        kept = need_bodies(self._system, bodies)
        self.need_room(list(kept))
        return self.lay_bundle(kept)

    def bundle_of(self, unit, number):
        """The tuple of the bundle of an edition, empty for one in no bundle."""
        return self.edition_of(unit, number).bundle

    def called(self, unit, number, other):
        """The number of the edition in which a call of another unit from an edition begins now."""
        bundle = dict(self.edition_of(unit, number).bundle)
        self._need_unit(other)
        return bundle.get(other, self._standing[other])

    def last_unit(self):
        """The name of the last unit."""
        return self._system[2][-1][0]

    def edition_of(self, unit, number):
        """The Edition of a unit with a number."""
        self._need_unit(unit)
        if not is_within(number, 0, len(self._editions[unit]) - 1):
            raise InvalidEdition(number)
        return self._editions[unit][number]

    def all_editions(self, unit):
        """The list of the Editions of what surely is a unit."""
        return list(self._editions[unit])

    def equal_edition(self, unit, body):
        """The Edition of a unit in no bundle that has an equal body, or None."""
        for edition in self._editions[unit]:
            if edition.bundle == () and edition.body == body:
                return edition
        return None

    def need_body(self, unit, body):
        """Refuses what is no unit, and then what is no body for it in the published system."""
        self._need_unit(unit)
        need_body(self._system, unit, body)

    def need_room(self, units):
        """Refuses further editions of units that have as many as there may be."""
        for unit in units:
            if len(self._editions[unit]) >= MOST_EDITIONS:
                raise TooMany(MOST_EDITIONS + 1)

    def lay_edition(self, unit, body):
        """Lays a new edition, which comes to stand; its number."""
        number = len(self._editions[unit])
        self._editions[unit].append(self.edition_by(number, body, (), False))
        self._standing[unit] = number
        return number

    def edition_by(self, number, body, bundle, is_inner):
        """A new Edition, not laid yet."""
        return Edition(self.space, number, body, bundle, is_inner)

    def lay_bundle(self, bodies):
        """Lays the editions of a bundle, whose doors come to stand; the tuple of the tuples (unit, number)."""
        bundle = tuple([(unit, len(self._editions[unit])) for unit in bodies])
        doors = doors_of(self._system, bodies)
        for unit, number in bundle:
            is_inner = unit not in doors
            self._editions[unit].append(self.edition_by(number, bodies[unit], bundle, is_inner))
            if not is_inner:
                self._standing[unit] = number
        return bundle

    def _need_unit(self, unit):
        if unit not in [name for name, body in self._system[2]]:
            raise InvalidUnit(unit)


class Frame:
    """A call that has begun: its edition, the row of code at which it stands, and the store at which it waits there."""

    def __init__(self, unit, edition):
        self.unit = unit
        self.edition = edition
        self.at = 0
        self.kept = None

    def asked(self):
        """The row of code at which the frame stands."""
        return self.edition.code().rows[self.at]


class Session:
    """A session that goes on with the editions of a shelf."""

    def __init__(self, shelf, store, *, is_published=False):
        need_store(shelf.space, store)
        self._shelf = shelf
        self._space = shelf.space
        self._frames = []
        self._lines = []
        self._moved = 0
        self.store = store
        self.began = store
        self.is_over = False
        unit = shelf.last_unit()
        self.edition = 0 if is_published else shelf.standing(unit)
        self._begin(unit, self.edition)

    def asks(self):
        """What the session asks for."""
        if self.is_over:
            return "over", self.store
        frame = self._frames[-1]
        asked = question(frame.edition.code(), frame.at)
        if asked[0] == "back":
            return "back", frame.unit
        return asked

    def choose(self, label):
        """Goes on at a choose, with the body of a label."""
        row = self._asked("choose")
        if not isinstance(label, str) or label not in [word for word, at in row[2]]:
            raise InvalidAnswer(label)
        self._lines.append(f"choose {label}")
        self._settle(dict(row[2])[label])

    def spin(self, part):
        """Goes on at a spin, with a part of its wheel."""
        self._turn("spin", part)

    def turn(self, part):
        """Goes on at a draw, with a part of its wheel."""
        self._turn("turn", part)

    def go(self, *, is_published=False):
        """Goes on at a loop, at a call, where the called unit begins, and at a back, where a unit ends."""
        kind = self.asks()[0]
        if kind == "loop":
            self._lines.append("loop")
            self._settle(self._frames[-1].at + 1)
        elif kind == "call":
            self._call(is_published)
        elif kind == "back":
            self._back()
        else:
            raise NotAsked()

    def frames(self):
        """The list of the tuples (unit, edition, row) of all calls that have begun and have not ended."""
        return [(frame.unit, frame.edition.number, frame.at) for frame in self._frames]

    def places(self):
        """The list of the tuples (unit, edition, place) of all these calls."""
        found = []
        for frame in self._frames:
            store = self.store if frame.kept is None else frame.kept
            found.append((frame.unit, frame.edition.number, frame.edition.place_at(frame.at, store)))
        return found

    def move(self, number, place):
        """Lets the last frame go on at a place of another edition of its unit, or of the same one."""
        self.need_move(number, place)
        self.need_move_left()
        self._move_to(self._frames[-1], number, place)

    def move_waiting(self, at, number, place):
        """Lets a frame that waits wait at a call in another edition of its unit, or in the same one."""
        self.need_move_waiting(at, number, place)
        self.need_move_left()
        self._move_to(self._frames[at], number, place)

    def lines(self):
        """The list of the lines of all steps and moves."""
        return list(self._lines)

    def last_line(self):
        """The last one of these lines, None if there is none."""
        return self._lines[-1] if self._lines else None

    def need_move(self, number, place):
        """Refuses a move of the last frame that leads nowhere, however many moves there have been."""
        if self.is_over:
            raise NotAsked()
        frame = self._frames[-1]
        if not self._edition(frame, number).is_place(place, self.store):
            raise InvalidRow(place)

    def need_move_waiting(self, at, number, place):
        """Refuses a move of a frame that waits that leads nowhere, however many moves there have been."""
        if self.is_over:
            raise NotAsked()
        if not is_within(at, 0, len(self._frames) - 2):
            raise InvalidRow(at)
        frame = self._frames[at]
        if not self._edition(frame, number).is_call_of(place, self._frames[at + 1].unit, frame.kept):
            raise InvalidRow(place)

    def need_move_left(self):
        """Refuses one move more than there may be."""
        if self._moved >= MOST_MOVES:
            raise TooMany(MOST_MOVES + 1)

    def _edition(self, frame, number):
        return self._shelf.edition_of(frame.unit, number)

    def _move_to(self, frame, number, place):
        frame.edition = self._edition(frame, number)
        frame.at = frame.edition.number_at(place)
        path = "end"
        if isinstance(place, tuple):
            path = ".".join([str(item) for item in place[0]])
        self._lines.append(f"move {frame.unit} {number} {path}")
        self._moved = self._moved + 1

    def _asked(self, kind):
        """The row that asks, if it is one of this kind."""
        if self.is_over or self._frames[-1].asked()[0] != kind:
            raise NotAsked()
        return self._frames[-1].asked()

    def _turn(self, word, part):
        row = self._asked("draw" if word == "turn" else word)
        size = self.asks()[-1]
        if not is_within(part, 0, size - 1):
            raise InvalidPart(part)
        self._lines.append(f"{word} {part} of {size}")
        self.store = self._space.with_value(self.store, row[-2], value_of_part(row[-1], part))
        self._settle(self._frames[-1].at + 1)

    def _call(self, is_published):
        frame = self._frames[-1]
        unit = frame.asked()[1]
        number = 0 if is_published else self._shelf.called(frame.unit, frame.edition.number, unit)
        frame.kept = self.store
        self._lines.append(f"call {unit} {number}")
        self._begin(unit, number)

    def _back(self):
        frame = self._frames.pop()
        self._lines.append(f"back {frame.unit}")
        if self._frames:
            caller = self._frames[-1]
            caller.kept = None
            self._settle(caller.at + 1)
        else:
            self.is_over = True

    def _begin(self, unit, number):
        self._frames.append(Frame(unit, self._shelf.edition_of(unit, number)))
        self._settle(0)

    def _settle(self, at):
        """Runs the last frame from a row on to the next one that asks."""
        frame = self._frames[-1]
        frame.at, self.store = settle(self._space, frame.edition.code().rows, at, self.store)

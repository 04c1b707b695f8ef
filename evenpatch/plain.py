"""The plain meaning of systems: sessions that are played step by step."""

from evenpatch.checks import check_system
from evenpatch.courses import Course
from evenpatch.errors import InvalidAnswer, InvalidSteps, InvalidStore
from evenpatch.kinds import is_within
from evenpatch.meaning import value_of_part, wheel_size
from evenpatch.spaces import Space

MOST_STEPS = 2000


def play(system, store, answers, steps):
    """The tuple of the lines of a session's steps and the store in which it is over, None if it is not over."""
    check_system(system)
    space = Space(system[1])
    if not is_within(store, 0, space.never - 1):
        raise InvalidStore(store)
    if not is_within(steps, 0, MOST_STEPS):
        raise InvalidSteps(steps)
    if not isinstance(answers, (list, tuple)):
        raise InvalidAnswer(answers)
    playing = Playing(space, system[2], store, answers)
    lines = []
    while len(lines) < steps and playing.goes_on():
        lines.append(playing.step())
    if playing.stack:
        return lines, None
    return lines, playing.store


class Playing:
    """A session that takes its answers from a list."""

    def __init__(self, space, units, store, answers):
        self.courses = {unit: Course(space, body) for unit, body in units}
        self.store = store
        self.stack = []
        self._answers = answers
        self._taken = 0
        self._begin(units[-1][0])

    def goes_on(self):
        """Whether there is a next step, with an answer if it needs one."""
        if not self.stack:
            return False
        return self._taken < len(self._answers) or self._kind() not in ("choose", "draw", "spin")

    def step(self):
        """Does the next step; its line."""
        unit, number = self.stack[-1]
        course = self.courses[unit]
        kind = self._kind()
        if kind == "back":
            self.stack.pop()
            if self.stack:
                caller, waiting = self.stack[-1]
                self._go(self.courses[caller].after[waiting])
            return f"back {unit}"
        statement = course.told[number]
        if kind == "call":
            self._begin(statement[1])
            return f"call {statement[1]}"
        if kind == "while":
            self._go(course.inner[number][0])
            return "loop"
        if kind == "choose":
            return self._choose(course, number, statement)
        return self._turn(course, number, statement)

    def _choose(self, course, number, statement):
        labels = [label for label, body in statement[2]]
        label = self._next_answer()
        if not isinstance(label, str) or label not in labels:
            raise InvalidAnswer(self._answers)
        self._go(course.inner[number][labels.index(label)])
        return f"choose {label}"

    def _turn(self, course, number, statement):
        pairs = statement[-1]
        size = wheel_size(pairs)
        part = self._next_answer()
        if not is_within(part, 0, size - 1):
            raise InvalidAnswer(self._answers)
        self.store = course.space.with_value(self.store, statement[-2], value_of_part(pairs, part))
        self._go(course.after[number])
        word = "turn" if statement[0] == "draw" else "spin"
        return f"{word} {part} of {size}"

    def _kind(self):
        unit, number = self.stack[-1]
        if number is None:
            return "back"
        return self.courses[unit].told[number][0]

    def _next_answer(self):
        self._taken = self._taken + 1
        return self._answers[self._taken - 1]

    def _begin(self, unit):
        self.stack.append((unit, None))
        self._go(self.courses[unit].start)

    def _go(self, number):
        """Lets the last frame go on from a statement."""
        unit, _ = self.stack[-1]
        found, self.store = self.courses[unit].way(number, self.store)
        self.stack[-1] = (unit, found)

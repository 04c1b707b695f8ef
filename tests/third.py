"""Sessions by compiled codes alone: frames are lists of a unit, an edition, a row and the store in which a call began."""

from evenpatch.checks import body_of, space_of, unit_names
from evenpatch.compiler import compiled, row_numbers
from evenpatch.running import answered, question, settled


class Third:
    """A session; `pick(unit, caller)` is the edition of a call, `bodies` has the bodies of all editions of each unit."""

    def __init__(self, system, bodies, pick, store):
        self.system = system
        self.space = space_of(system)
        self.bodies = bodies
        self.pick = pick
        self.store = store
        self.lines = []
        self.frames = []
        self.begin(unit_names(system)[-1], None)

    def code(self, unit, number):
        return compiled(self.system, unit, self.bodies[unit][number])

    def numbers(self, unit, number):
        return row_numbers(self.system, unit, self.bodies[unit][number])

    def begin(self, unit, caller):
        number = self.pick(unit, caller)
        self.frames.append([unit, number, 0, None])
        self.go(settled(self.space, self.code(unit, number), 0, self.store))
        return number

    def go(self, found):
        self.frames[-1][2], self.store = found

    def asks(self):
        if not self.frames:
            return "over", self.store
        unit, number, at, _ = self.frames[-1]
        asked = question(self.code(unit, number), at)
        return ("back", unit) if asked == ("back",) else asked

    def step(self, answer=None):
        asked = self.asks()
        unit, number, at, _ = self.frames[-1]
        if asked[0] == "call":
            self.frames[-1][3] = self.store
            found = self.begin(asked[1], (unit, number))
            self.lines.append(f"call {asked[1]} {found}")
            return
        if asked[0] == "back":
            self.lines.append(f"back {unit}")
            self.frames.pop()
            if not self.frames:
                return
            unit, number, at, kept = self.frames[-1]
            self.frames[-1][3] = None
            self.go(answered(self.space, self.code(unit, number), at, kept, self.store))
            return
        word = {"loop": "loop", "choose": f"choose {answer}"}.get(asked[0], f"{asked[0]} {answer} of {asked[-1]}")
        self.lines.append(word)
        self.go(answered(self.space, self.code(unit, number), at, self.store, answer))

    def places(self):
        found = []
        for unit, number, at, kept in self.frames:
            paths = [path for path, row in self.numbers(unit, number) if row == at]
            store = self.store if kept is None else kept
            found.append((unit, number, (paths[0], store) if paths else store))
        return found

    def rows(self):
        return [(unit, number, at) for unit, number, at, _ in self.frames]

    def move(self, index, number, place):
        frame = self.frames[index]
        frame[1] = number
        if isinstance(place, int):
            frame[2] = len(self.code(frame[0], number).rows) - 1
            path = "end"
        else:
            frame[2] = dict(self.numbers(frame[0], number))[place[0]]
            path = ".".join(str(item) for item in place[0])
        self.lines.append(f"move {frame[0]} {number} {path}")


def all_places(system, body, store):
    """The places of a body with a store, found by trying all paths."""
    from evenpatch.checks import statements, with_body
    from evenpatch.webs import web
    unit = unit_names(system)[-1]
    whole = with_body(system, unit, body)
    space = space_of(system)
    sure = tuple(int(at == 0) for at in range(len(space) + 1))
    net = web(whole, unit, (), {name: [[[sure]]] * len(space) for name in unit_names(system)}, "S")
    rows = [(path, store) for path, _ in statements(whole, unit) if net.is_row((path, store))]
    return [*rows, store]


def kinds_at(system, unit, body, path):
    """The statement with a path of a body."""
    from evenpatch.checks import statements, with_body
    return dict(statements(with_body(system, unit, body), unit))[path]


def published(system, unit):
    return body_of(system, unit)

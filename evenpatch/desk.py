"""Desks: houses under names, with rollouts that can be taken back."""

from evenpatch.checks import check_system
from evenpatch.errors import InvalidLines, InvalidName, InvalidSystem, NothingToUndo, NoThing, PactError, TooMany
from evenpatch.house import House
from evenpatch.pictures import go_on, picture
from evenpatch.registry import Registry
from evenpatch.rows import with_last
from evenpatch.shelflines import number_of
from evenpatch.spaces import is_word
from evenpatch.texts import read_system

MOST_HOUSES = 8
MOST_ROLLOUTS = 8


class Desk:
    """Houses under different names, each with its rollouts: lists of the tuples (unit, number) of what stood ahead."""

    def __init__(self):
        self._houses = {}
        self._rollouts = {}

    def __len__(self):
        return len(self._houses)

    def __contains__(self, x):
        return isinstance(x, str) and x in self._houses

    def __eq__(self, other):
        return isinstance(other, Desk) and self.lines() == other.lines()

    def names(self):
        """The ascending list of the names."""
        return sorted(list(self._houses))

    def house_of(self, name):
        """The house under a name."""
        self._need_name(name)
        return self._houses[name]

    def lay(self, name, text, promised):
        """Puts a house without sessions under a new name."""
        self._need_new(name)
        registry = Registry(read_system(text), promised)
        self._need_room()
        self._houses[name] = House(registry)
        self._rollouts[name] = []

    def drop(self, name):
        """Takes a house away."""
        self._need_name(name)
        del self._houses[name]
        del self._rollouts[name]

    def rename(self, name, new):
        """Puts a house under a new name instead of its own."""
        self._need_name(name)
        self._need_new(new)
        self._houses[new] = self._houses.pop(name)
        self._rollouts[new] = self._rollouts.pop(name)

    def twin(self, name, new):
        """Puts what goes on by the picture of a house under a new name."""
        self._need_name(name)
        self._need_new(new)
        self._need_room()
        self.keep(new, go_on(picture(self._houses[name])), self._rollouts[name])

    def roll_out(self, name, text):
        """Exchanges the bodies of the units that differ from what stands, all of them or none."""
        self._need_name(name)
        registry = self._houses[name].registry
        system = read_system(text)
        check_system(system)
        if not is_alike(system, registry.published()):
            raise InvalidSystem(system)
        changes = [(unit, body) for unit, body in system[2] if body != registry.body_at(unit, registry.standing(unit))]
        for unit, body in changes:
            registry.need_let(unit, body)
        stood = [(unit, registry.standing(unit)) for unit, _ in changes]
        found = []
        for unit, body in changes:
            found.append((unit, registry.take(unit, body)))
        if stood:
            self._rollouts[name] = with_last(self._rollouts[name], stood, MOST_ROLLOUTS)
        return found

    def undo(self, name):
        """Lets stand again what stood ahead of the last rollout."""
        self._need_name(name)
        if not self._rollouts[name]:
            raise NothingToUndo()
        rollout = self._rollouts[name].pop()
        for unit, number in rollout:
            self._houses[name].registry.stand(unit, number)

    def lines(self):
        """The lines of the desk, by which it can be read again."""
        found = []
        for name in sorted(list(self._houses)):
            found.append(f"house {name}")
            found.extend(picture(self._houses[name]))
            for rollout in self._rollouts[name]:
                found.append(" ".join(["undo"] + [f"{unit} {number}" for unit, number in rollout]))
        return found

    def keep(self, name, house, rollouts):
        """Puts a house with rollouts under what surely is a new name."""
        self._houses[name] = house
        self._rollouts[name] = [list(rollout) for rollout in rollouts]

    def _need_name(self, name):
        if name not in self:
            raise NoThing(name)

    def _need_new(self, name):
        if not is_word(name) or name in self._houses:
            raise InvalidName(name)

    def _need_room(self):
        if len(self._houses) >= MOST_HOUSES:
            raise TooMany(MOST_HOUSES + 1)


def read_desk(lines):
    """The desk with these lines."""
    if not isinstance(lines, (list, tuple)) or not all([isinstance(line, str) for line in lines]):
        raise InvalidLines(lines)
    starts = [at for at, line in enumerate(lines) if line.startswith("house ")]
    names = [lines[at].partition(" ")[2] for at in starts]
    if len(starts) > MOST_HOUSES or not all([is_word(name) for name in names]) or names != sorted(set(names)):
        raise InvalidLines(lines)
    desk = Desk()
    try:
        for name, start, end in zip(names, starts, [*starts[1:], len(lines)]):
            told = lines[start + 1:end]
            first = first_undo(told)
            house = go_on(list(told[:first]))
            if len(told) - first > MOST_ROLLOUTS:
                raise InvalidLines(lines)
            desk.keep(name, house, [rollout_of(line, house.registry) for line in told[first:]])
    except PactError:
        raise InvalidLines(lines) from None
    if desk.lines() != list(lines):
        raise InvalidLines(lines)
    return desk


def first_undo(lines):
    """The index of the first line of a rollout, or of the end."""
    found = [at for at, line in enumerate(lines) if line.startswith("undo")]
    return found[0] if found else len(lines)


def rollout_of(line, registry):
    """The list of the tuples (unit, number) that a line tells; all of them can stand in the registry."""
    words = line.split(" ")
    found = list(zip(words[1::2], [number_of(word) for word in words[2::2]]))
    units = [unit for unit, _ in registry.published()[2]]
    places = [units.index(unit) if unit in units else -1 for unit, _ in found]
    if not found or -1 in places or places != sorted(set(places)):
        raise InvalidLines(line)
    for unit, number in found:
        if registry.edition_of(unit, number).is_inner:
            raise InvalidLines(line)
    return found


def is_alike(system, other):
    """Whether two systems have the same parties, names and units."""
    return system[:2] == other[:2] and [unit for unit, _ in system[2]] == [unit for unit, _ in other[2]]

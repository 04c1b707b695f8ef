"""The lines of registries, and what they tell."""

from evenpatch.errors import PactError
from evenpatch.texts import read_system
from evenpatch.writer import unit_lines

MOST_DIGITS = 2


class Told:
    """What the lines of a registry tell: a system, promised sides, editions and what stands.

    `bodies` has for each unit the tuples (bundle, body) of its editions but the published one, `stands` is a list of
    tuples (unit, number). Nothing of it has been judged.
    """

    def __init__(self, system, sides, bodies, stands):
        self.system = system
        self.sides = sides
        self.bodies = bodies
        self.stands = stands

    def order(self):
        """The tuples (unit, number) of editions in an order in which they can have been laid, one for each bundle."""
        laid = {unit: 0 for unit in self.bodies}
        found = []
        while True:
            step = self._next_step(laid)
            if step is None:
                return found
            for unit, number in step:
                laid[unit] = number
            found.append(step[0])

    def _next_step(self, laid):
        """The editions that can be laid at once behind those that have been; None if there are none."""
        for unit, rows in self.bodies.items():
            number = laid[unit] + 1
            if number <= len(rows):
                step = rows[number - 1][0]
                if step == ():
                    return ((unit, number),)
                if all([self._is_next(laid, step, other, at) for other, at in step]):
                    return step
        return None

    def _is_next(self, laid, step, unit, number):
        """Whether an edition of a bundle is the next one of its unit, and tells the same bundle."""
        if unit not in laid or laid[unit] != number - 1 or len(self.bodies[unit]) < number:
            return False
        return self.bodies[unit][number - 1][0] == step


def promised_line(side):
    """The line of a promised side."""
    return " ".join(["promised"] + [f"p{party}" for party in side])


def edition_lines(unit, number, body, bundle):
    """The lines of an edition."""
    words = ["edition", str(number)]
    if bundle != ():
        words.append("with")
        for other, at in bundle:
            words.append(f"{other} {at}")
    return [" ".join(words), *unit_lines(unit, body)]


def told_by(lines):
    """What any value tells as lines of a registry, if it has their form, so far as it is looked at here; else None."""
    if not isinstance(lines, (list, tuple)) or not all([isinstance(line, str) for line in lines]):
        return None
    first = place_of(lines, 0, "promised")
    second = first
    while second < len(lines) and lines[second].split(" ")[0] == "promised":
        second += 1
    third = place_of(lines, second, "stand")
    try:
        system = read_system("\n".join(lines[:first]))
        editions = editions_in(system, lines[second:third])
    except PactError:
        return None
    if editions is None:
        return None
    sides = [side_of(line) for line in lines[first:second]]
    return Told(system, sides, editions, [standing_of(line) for line in lines[third:]])


def place_of(lines, at, word):
    """The index, from one on, of the first line that begins with a word, or of the end."""
    while at < len(lines) and lines[at].split(" ")[0] != word:
        at += 1
    return at


def side_of(line):
    """The side that a line tells, if it tells one."""
    return tuple([number_of(word[1:]) for word in line.split(" ")[1:]])


def standing_of(line):
    """The tuple (unit, number) that a line tells, if it tells one."""
    words = line.split(" ")
    if len(words) != 3:
        return "", 0
    return words[1], number_of(words[2])


def editions_in(system, lines):
    """A dict from the units to the lists of the tuples (bundle, body) of their editions; None if lines tell none."""
    parties, names, units = system
    found = {unit: [] for unit, body in units}
    at = 0
    while at < len(lines):
        bundle = bundle_of(lines[at])
        if bundle is None:
            return None
        end = place_of(lines, at, "}") + 1
        header = [f"parties {parties}"] + [f"name {name} {size}" for name, size in names]
        read = read_system("\n".join(header + list(lines[at + 1:end])))
        if len(read[2]) != 1 or read[2][0][0] not in found:
            return None
        unit, body = read[2][0]
        found[unit].append((bundle, body))
        at = end
    return found


def bundle_of(line):
    """The bundle that the line of an edition tells, `()` for none; None if it is no such line."""
    words = line.split(" ")
    if words[0] != "edition" or len(words) < 2 or len(words) == 3:
        return None
    return tuple([(unit, number_of(number)) for unit, number in zip(words[3::2], words[4::2])])


def number_of(word):
    """The integer that a word is, or -1 if it is none."""
    if 1 <= len(word) <= MOST_DIGITS and all([sign in "0123456789" for sign in word]):
        return int(word)
    return -1

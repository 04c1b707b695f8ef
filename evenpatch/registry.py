"""Registries: shelves that judge what is exchanged."""

from evenpatch.bundles import first_attack
from evenpatch.bundleshop import BundleShop
from evenpatch.editions import Edition, need_bodies
from evenpatch.errors import InvalidLines, InvalidPrice, InvalidPromised, NotLet, PactError, TooDear
from evenpatch.machine import Shelf
from evenpatch.meets import let_paper, rivals_of
from evenpatch.parties import is_side_of
from evenpatch.ratios import Ratio, as_ratio, is_number
from evenpatch.shelflines import edition_lines, promised_line, told_by
from evenpatch.webs import is_ascending
from evenpatch.workshop import Workshop
from evenpatch.writer import system_lines

MOST_PROMISED = 8


class Registry(Shelf):
    """A shelf whose editions are let by for the promised sides, or cost them what was not too much."""

    def __init__(self, system, promised):
        Shelf.__init__(self, system)
        if not is_promised(promised, system[0]):
            raise InvalidPromised(promised)
        self._promised = tuple(promised)
        self._shop = Workshop(system)
        self._owns = {}
        self._webs = {}
        self._harms = {}
        for unit, body in system[2]:
            self._need_bounds(body)
            self._harms[(unit, 0)] = self._no_harms()

    def __eq__(self, other):
        return isinstance(other, Registry) and self.lines() == other.lines()

    def promised(self):
        """The list of the promised sides."""
        return list(self._promised)

    def exchange(self, unit, body):
        """Lets an edition with this body stand, a new one only if it is let by for each promised side; its number."""
        self.need_let(unit, body)
        return self.take(unit, body)

    def need_let(self, unit, body):
        """Refuses a body that cannot be exchanged."""
        self.need_body(unit, body)
        edition = self.equal_edition(unit, body)
        if edition is None:
            self.need_room([unit])
        elif is_free(self._harms[(unit, edition.number)]):
            return
        for side, rivals in self._judged(unit, body):
            attack = rivals.attack()
            if attack is not None:
                store, plan, payoff, answer = attack
                raise NotLet(side, store, plan, payoff, answer)

    def take(self, unit, body):
        """Lets an edition with a body that is not refused stand; its number."""
        edition = self.equal_edition(unit, body)
        if edition is None:
            return self._laid(unit, body, self._no_harms())
        self.stand(unit, edition.number)
        return edition.number

    def exchange_at(self, unit, body, price):
        """Lets an edition with this body stand, if no promised side is harmed above a price; its number."""
        self.need_body(unit, body)
        if not is_number(price) or as_ratio(price).top < 0 or Ratio(1).below(price):
            raise InvalidPrice(price)
        edition = self.equal_edition(unit, body)
        if edition is None:
            self.need_room([unit])
            harms = [(side, rivals.harms()) for side, rivals in self._judged(unit, body)]
        else:
            harms = self._harms[(unit, edition.number)]
        need_cheap(harms, as_ratio(price))
        if edition is None:
            return self._laid(unit, body, harms)
        self.stand(unit, edition.number)
        return edition.number

    def exchange_all(self, bodies):
        """Lays a bundle that is let by for each promised side; the tuple of the tuples (unit, number)."""
        kept = need_bodies(self.published(), bodies)
        self.need_room(list(kept))
        own = BundleShop(self._shop, kept)
        judged = []
        for side in self._promised:
            own.need(side, "S")
            own.need(side, "T")
            judged.append((side, own.rivals(side)))
        for unit in kept:
            need_frames(own.web_of(unit, self._promised[0], "S"))
        for side, rivals in judged:
            attack = first_attack(rivals)
            if attack is not None:
                _, store, plan, payoff, answer = attack
                raise NotLet(side, store, plan, payoff, answer)
        bundle = self.lay_bundle(kept)
        self._owns[bundle] = own
        for unit, number in bundle:
            self._harms[(unit, number)] = self._no_harms()
        return bundle

    def paper(self, unit, number):
        """The papers of an edition, one for each promised side; None for a published and for an inner one."""
        edition = self.edition_of(unit, number)
        if number == 0 or edition.is_inner:
            return None
        found = []
        for side, harms in self._harms[(unit, number)]:
            if edition.bundle != ():
                papers = dict(self._owns[edition.bundle].rivals(side))[unit].papers()
                found.append((side, ("yes", papers)))
            elif is_free([(side, harms)]):
                found.append((side, let_paper(rivals_of(self._shop, unit, edition.body, side))))
            else:
                found.append((side, rivals_of(self._shop, unit, edition.body, side).harm_papers()))
        return found

    def harms(self, unit, number):
        """The list of the tuples (side, harms) of an edition, one for each promised side."""
        self.edition_of(unit, number)
        return [(side, list(numbers)) for side, numbers in self._harms[(unit, number)]]

    def lines(self):
        """The lines of the registry, by which it can be read again."""
        system = self.published()
        found = list(system_lines(system))
        for side in self._promised:
            found.append(promised_line(side))
        for unit, _ in system[2]:
            for edition in self.all_editions(unit)[1:]:
                found.extend(edition_lines(unit, edition.number, edition.body, edition.bundle))
        for unit, _ in system[2]:
            found.append(f"stand {unit} {self.standing(unit)}")
        return found

    def edition_by(self, number, body, bundle, is_inner):
        """A new Edition, not laid yet, with the course by which its body has been judged."""
        edition = Edition(self.space, number, body, bundle, is_inner)
        edition.told_course(self._shop.course_by(body))
        return edition

    def costs_of(self, unit, number, store):
        """The list of the harms of an edition at a store, one for each promised side."""
        return [numbers[store] for side, numbers in self._harms[(unit, number)]]

    def web_at(self, unit, number, side, view):
        """The web of an edition for a side and a view, made once."""
        key = (unit, number, side, view)
        if key not in self._webs:
            edition = self.edition_of(unit, number)
            if edition.bundle == ():
                self._webs[key] = self._shop.web_for(edition.course(), side, view)
            else:
                own = self._owns[edition.bundle]
                own.need(side, view)
                self._webs[key] = own.web_of(unit, side, view)
        return self._webs[key]

    def _need_bounds(self, body):
        """Refuses a body whose bounds are passed, a published one, which is not judged."""
        for side in self._promised:
            self._need_called(body, side)
        self._need_body_frames(body)

    def _judged(self, unit, body):
        """The list of the tuples (side, Rivals) of a body for the promised sides, if no bound is passed."""
        found = []
        for side in self._promised:
            self._need_called(body, side)
            found.append((side, rivals_of(self._shop, unit, body, side)))
        self._need_body_frames(body)
        return found

    def _need_called(self, body, side):
        for view in ("S", "T"):
            self._shop.need(self._shop.course_by(body).calls, side, view)

    def _need_body_frames(self, body):
        need_frames(self._shop.web_by(body, self._promised[0], "S"))

    def _laid(self, unit, body, harms):
        number = self.lay_edition(unit, body)
        self._harms[(unit, number)] = harms
        return number

    def _no_harms(self):
        return [(side, [Ratio(0)] * self.space.never) for side in self._promised]


def read_registry(lines):
    """The registry with these lines."""
    told = told_by(lines)
    if told is None:
        raise InvalidLines(lines)
    try:
        registry = Registry(told.system, told.sides)
        for unit, number in told.order():
            relay(registry, told, unit, number)
        for unit, number in told.stands:
            registry.stand(unit, number)
    except PactError:
        raise InvalidLines(lines) from None
    if registry.lines() != list(lines):
        raise InvalidLines(lines)
    return registry


def relay(registry, told, unit, number):
    """Exchanges anew what lines tell of an edition, or of its bundle."""
    bundle, body = told.bodies[unit][number - 1]
    if bundle == ():
        registry.exchange_at(unit, body, 1)
    else:
        registry.exchange_all({other: told.bodies[other][at - 1][1] for other, at in bundle})


def is_promised(value, parties):
    """Whether any value is an ascending list of 1 to 8 different sides of so many parties."""
    if not isinstance(value, (list, tuple)) or not 1 <= len(value) <= MOST_PROMISED:
        return False
    return all([is_side_of(side, parties) for side in value]) and is_ascending(value)


def is_free(harms):
    """Whether all harms are 0."""
    return all([number.top == 0 for side, numbers in harms for number in numbers])


def need_cheap(harms, price):
    """Refuses harms above a price."""
    for side, numbers in harms:
        for store, number in enumerate(numbers):
            if price.below(number):
                raise TooDear(side, store, number)


def need_frames(web):
    """Refuses a body with too many rows of a frame from some store."""
    # So few rows in all are not too many from any store.
    if not web.is_bounded(web.rows_from_all(True)):
        for store in range(web.never):
            web.frame_rows(web.first(store))

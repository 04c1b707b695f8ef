"""Sets against counters, store by store: each a list of tuples (set, plan) for each store."""

from evenpatch.asked import is_payoff
from evenpatch.kinds import is_row_of, is_tuple_of, is_whole
from evenpatch.lots import blend, is_shares, mean_by
from evenpatch.nearest import least
from evenpatch.pairs import met, near_places, near_shares
from evenpatch.ratios import Ratio, as_ratio, is_number
from evenpatch.rows import is_same_way, with_last

MOST_RIVALS = 24


class Rivals:
    """The sets of a published body and the counters of a new one, with the plans by which they come."""

    def __init__(self, sets, counters, encounters):
        self.offers = sets
        self.counters = counters
        self._encounters = encounters
        self._attacks = []
        self._harms = []

    def pairs(self, store):
        """The list of the tuples ((set, plan), (counter, answer)) of a store."""
        return [(one, other) for one in self.offers[store] for other in self.counters[store]]

    def is_let(self):
        """Whether each set meets each counter."""
        return self.attack() is None

    def attack(self):
        """The tuple (store, plan, payoff, answer) of the first set and counter that do not meet; None if all meet."""
        if not self._attacks:
            self._attacks.append(self._first_attack())
        if self._attacks[0] is None:
            return None
        store, plan, payoff, answer = self._attacks[0]
        return store, plan, list(payoff), answer

    def _first_attack(self):
        for store in range(len(self.offers)):
            if self._like(store) == store:
                for (lots, plan), (others, answer) in self.pairs(store):
                    payoff = self._encounters.parting_payoff(lots, others)
                    if payoff is not None:
                        return store, plan, payoff, answer
        return None

    def papers(self):
        """For each store the list of the tuples (i, j, shares, others) of all sets and counters, all of which meet."""
        found = []
        for store in range(len(self.offers)):
            rows = []
            for i, (lots, _) in enumerate(self.offers[store]):
                for j, (others, _) in enumerate(self.counters[store]):
                    shares, other_shares, _ = met(lots, others)
                    rows.append((i, j, shares, other_shares))
            found.append(rows)
        return found

    def harms(self):
        """For each store the greatest distance of a set and a counter."""
        if not self._harms:
            for store in range(len(self.offers)):
                first = self._like(store)
                self._harms.append(self._harms[first] if first < store else self.farthest(store)[0])
        return list(self._harms)

    def farthest(self, store):
        """The tuple (number, plan, answer, payoff) of a set and a counter with the greatest distance."""
        best = (Ratio(-1), (), (), [])
        for (lots, plan), (others, answer) in self.pairs(store):
            # Two lots that are near show at once that their sets are not farther apart.
            if near_places(lots, others, best[0])[0] is None:
                number, payoff = self._encounters.gap(lots, others)
                if best[0].below(number):
                    best = (number, plan, answer, payoff)
        number, plan, answer, payoff = best
        return number, plan, answer, list(payoff)

    def harm_papers(self):
        """For each store the tuple (number, plan, answer, payoff, pairs) of its harm."""
        found = []
        for store in range(len(self.offers)):
            number, plan, answer, payoff = self.farthest(store)
            rows = []
            for i, (lots, _) in enumerate(self.offers[store]):
                for j, (others, _) in enumerate(self.counters[store]):
                    shares, other_shares = near_shares(lots, others, number)
                    rows.append((i, j, shares, other_shares))
            found.append((number, plan, answer, payoff, rows))
        return found

    def _like(self, store):
        """The first store with the same sets and counters."""
        for other in range(store):
            if self.offers[other] == self.offers[store] and self.counters[other] == self.counters[store]:
                return other
        return store

    def is_papers(self, value):
        """Whether any value has for each store shares by which all sets and counters meet."""
        if not is_row_of(value, len(self.offers)):
            return False
        return all([self.is_pairs(store, rows, None) for store, rows in enumerate(value)])

    def is_pairs(self, store, value, number):
        """Whether any value is a list of shares for all sets and counters of a store, by which they meet.

        With a number, it is enough that their mixtures are not farther apart.
        """
        if not is_row_of(value, len(self.offers[store]) * len(self.counters[store])):
            return False
        at = 0
        for i, (lots, _) in enumerate(self.offers[store]):
            for j, (others, _) in enumerate(self.counters[store]):
                if not is_pair(value[at], i, j, lots, others, number):
                    return False
                at += 1
        return True


def rivals_between(sets, counters, encounters):
    """The Rivals of sets and counters, those that are known if such ones were asked before."""
    for other in encounters.known:
        if other.offers == sets and other.counters == counters:
            return other
    found = Rivals(sets, counters, encounters)
    encounters.known = with_last(encounters.known, found, MOST_RIVALS)
    return found


def is_pair(value, i, j, lots, others, number):
    """Whether any value is a tuple (i, j, shares, others) by which two sets meet, or are as near as a number tells."""
    if not is_tuple_of(value, 4) or not is_whole(value[0]) or not is_whole(value[1]) or value[:2] != (i, j):
        return False
    if not is_shares(value[2], len(lots)) or not is_shares(value[3], len(others)):
        return False
    mix = blend(lots, value[2])
    other_mix = blend(others, value[3])
    if number is None:
        return is_same_way(mix, other_mix)
    return is_near_by(mix, other_mix, number)


def is_near_by(parts, others, number):
    """Whether the lots of two lists of integers have a distance that is not above a number."""
    whole = sum(parts)
    other_whole = sum(others)
    total = sum([max(0, part * other_whole - other * whole) for part, other in zip(parts, others)])
    return not number.below(Ratio(total, whole * other_whole))


def lead(lots, others, payoff):
    """The least mean of a payoff by the lots, less its greatest mean by the others."""
    low = least([mean_by(lot, payoff) for lot in lots])
    high = -least([-mean_by(other, payoff) for other in others])
    return low - high


def is_attack(prospect, counter, plan, payoff, answer):
    """Whether any values are a plan, a payoff and an answer such that less comes by the answer than by the plan."""
    found = lead_of(prospect, counter, plan, payoff, answer)
    return found is not None and found.top > 0


def lead_of(prospect, counter, plan, payoff, answer):
    """The lead for any values as a plan, a payoff and an answer, None unless they are so."""
    if not prospect.is_plan(plan) or not counter.is_plan(answer) or not is_payoff(payoff, prospect.many):
        return None
    lots = prospect.lots_by(prospect.picks_of(plan))
    return lead(lots, counter.lots_by(counter.picks_of(answer)), payoff)


def is_harm_part(prospect, counter, value):
    """Whether the first four items of any value are a number, a plan, an answer and a payoff that parts them so far."""
    if not is_tuple_of(value, 5) or not is_number(value[0]):
        return False
    number, plan, answer, payoff, _ = value
    found = lead_of(prospect, counter, plan, payoff, answer)
    if found is None or min(payoff) < 0 or max(payoff) == 0:
        return False
    return found == as_ratio(number) * max(payoff)

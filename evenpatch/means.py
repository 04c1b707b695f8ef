"""Leaders: many sessions that are led so that the mean of their ends comes near to a polygon."""

from evenpatch.asked import need_side_of
from evenpatch.errors import InvalidPlan, InvalidSide, NotAsked
from evenpatch.ladders import Ladder
from evenpatch.lots import blend
from evenpatch.plans import corners_by
from evenpatch.ratios import Ratio
from evenpatch.rows import shortened
from evenpatch.squares import nearest_shares


class Leader:
    """Leads sessions of a house, one behind another, for a promised side."""

    def __init__(self, house, side, store, plan):
        system = house.registry.published()
        need_side_of(system, side)
        if side not in house.registry.promised():
            raise InvalidSide(side)
        corners = corners_by(system, house.registry.last_unit(), store, side, "S", plan)
        if max([corner[-1] for corner in corners]) > 0:
            raise InvalidPlan(plan)
        self.house = house
        self.side = side
        self.store = store
        self.plan = plan
        self._corners = corners
        self._sessions = []
        self._shares = {}

    def polygon(self):
        """The list of the corners of what comes of the plan."""
        return list(self._corners)

    def begin(self):
        """Begins a session, which is the current one from now on; its number."""
        if self._sessions and not self._is_over(self._sessions[-1]):
            raise NotAsked()
        session = self.house.begin(self.store)
        self._sessions.append(session)
        return session

    def led(self):
        """The list of the numbers of all sessions that have begun here."""
        return list(self._sessions)

    def ends(self):
        """The list of the stores in which those that are over have ended."""
        return [self.house.store_now(session) for session in self._sessions if self._is_over(session)]

    def mean(self):
        """The lot of the ends."""
        ends = self.ends()
        if not ends:
            raise NotAsked()
        return tuple(shortened([ends.count(outcome) for outcome in range(len(self._corners[0]))]))

    def point(self):
        """The tuple of the lot of the polygon that is nearest to the mean, and of the shares that mix to it."""
        middle = self.mean()
        if middle not in self._shares:
            self._shares[middle] = nearest_shares(self._corners, middle)
        shares = list(self._shares[middle])
        return tuple(shortened(blend(self._corners, shares))), shares

    def square(self):
        """The sum of the squares of the differences of the mean and the point."""
        whole, differences = self._differences()
        return Ratio(sum([item * item for item in differences]), whole * whole)

    def aim(self):
        """The payoff that leads from the mean to the point."""
        many = len(self._corners[0])
        if not self.ends():
            return [0] * many
        _, differences = self._differences()
        if differences == [0] * many:
            return differences
        return shortened(differences)

    def label(self):
        """The label that the side takes in the current session, None where it has none to take."""
        if not self._sessions:
            return None
        session = self._sessions[-1]
        asked = self.house.asks(session)
        if asked[0] != "choose" or asked[1] not in self.side:
            return None
        # The end of the session comes ahead of all else: from never's, each store has one more.
        ends = [(1, 1, item) for item in self.aim()]
        ends[-1] = (1, 0, 0)
        ladder = Ladder(self.house.book, self.house.frames(session), self.side, "S", tuple(ends))
        return asked[2][ladder.best_index()]

    def _is_over(self, session):
        return self.house.asks(session)[0] == "over"

    def _differences(self):
        """The tuple of an integer and what the shares of the point have above the mean's, multiplied by it."""
        middle = self.mean()
        near = self.point()[0]
        whole = sum(middle)
        size = sum(near)
        return whole * size, [part * whole - other * size for part, other in zip(near, middle)]

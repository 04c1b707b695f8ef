"""Chains of rows with one move each: what comes of them in the end, without any quotient."""

from math import lcm

from evenpatch.ratios import Ratio
from evenpatch.rows import common_divisor


class Chain:
    """Rows that are left out one by one, from the greatest number down.

    Whatever a row brings is the sum of what its targets bring, each multiplied by its weight, divided by the row's
    whole. Targets that are no rows stay. A row that only leads to itself has the target `lost`.
    """

    def __init__(self, lost):
        self._lost = lost
        self._told = {}

    def leave_out(self, row, whole, parts):
        """Tells a row by targets that have not been left out, the row itself neither."""
        whole, parts = self.told_by(whole, parts)
        back = parts.pop(row, 0)
        if back == whole:
            whole = 1
            parts = {self._lost: 1}
        elif back > 0:
            whole, parts = shortest(whole - back, parts)
        self._told[row] = (whole, parts)

    def told_by(self, whole, parts):
        """The tuple (whole, parts) that brings the same, with no target that has been left out; a new dict."""
        left = dict(parts)
        inner = [target for target in left if target in self._told]
        while inner:
            # What stands for the greatest number may lead to lesser ones, never the other way round.
            target = max(inner)
            weight = left.pop(target)
            other_whole, others = self._told[target]
            if other_whole > 1:
                whole = whole * other_whole
                left = {one: worth * other_whole for one, worth in left.items()}
            for one, worth in others.items():
                left[one] = left.get(one, 0) + weight * worth
            if other_whole > 1:
                whole, left = shortest(whole, left)
            inner = [one for one in left if one in self._told]
        return whole, left

    def worths(self, rows, ends):
        """A dict of what the rows bring, which are left out all, and of what else they lead to, as `ends` tells it."""
        found = dict(ends)
        for row in rows:
            whole, parts = self._told[row]
            found[row] = mean_behind(whole, parts, found)
        return found


def mean_behind(whole, parts, values):
    """The sum of values, each multiplied by the weight of its target, divided by the whole."""
    bottom = 1
    for target in parts:
        bottom = lcm(bottom, values[target].bottom)
    top = sum([weight * values[target].top * (bottom // values[target].bottom) for target, weight in parts.items()])
    return Ratio(top, whole * bottom)


def shortest(whole, parts):
    """A whole and parts, divided by their greatest common divisor."""
    common = common_divisor([whole, *list(parts.values())])
    if common == 1:
        return whole, parts
    return whole // common, {target: weight // common for target, weight in parts.items()}

"""Packs: tuples of numbers as integers, a bottom above 0 and behind it a top for each number, in lowest terms.

Packs with equally many tops are equal exactly if their numbers are; they are ordered as tuples of these numbers.
"""

from math import gcd, lcm

from evenpatch.ratios import Ratio, with_one_bottom


def nought(many):
    """The pack of so many noughts."""
    return (1,) + (0,) * many


def lowest(bottom, tops):
    """The pack of the tops divided by the bottom."""
    common = bottom
    for top in tops:
        if common == 1:
            break
        common = gcd(common, top)
    if common > 1:
        return (bottom // common, *[top // common for top in tops])
    return (bottom, *tops)


def pack_of(numbers):
    """The pack of some numbers."""
    tops, bottom = with_one_bottom(numbers)
    return (bottom, *tops)


def moved_by(pack, whole):
    """The pack whose first number has an integer more, and whose further ones are the same."""
    return (pack[0], pack[1] + whole * pack[0], *pack[2:])


def numbers_of(pack):
    """The tuple of the Ratios of a pack."""
    return tuple([Ratio(top, pack[0]) for top in pack[1:]])


def joined_packs(one, other):
    """The pack of the numbers of a pack and, behind them, those of another one."""
    bottom = lcm(one[0], other[0])
    factor = bottom // one[0]
    other_factor = bottom // other[0]
    return (bottom, *[top * factor for top in one[1:]], *[top * other_factor for top in other[1:]])


def is_above(one, other):
    """Whether a pack is above another one."""
    if one != other:
        for top, other_top in zip(one[1:], other[1:]):
            ahead = top * other[0] - other_top * one[0]
            if ahead != 0:
                return ahead > 0
    return False


def sign_of(pack):
    """1 for a pack above noughts, -1 for one below them, 0 for noughts."""
    for top in pack[1:]:
        if top != 0:
            return 1 if top > 0 else -1
    return 0


def mean_pack(move, packs):
    """The mean of the packs behind a move, a tuple of tuples (place, weight)."""
    if len(move) == 1:
        return packs[move[0][0]]
    whole, bottom, tops = weighed_packs(move, packs)
    return lowest(whole * bottom, tops)


def weighed_packs(move, packs):
    """The tuple (whole, bottom, tops) of the weights' sum, and of the sum of the packs, each by its weight."""
    bottom = 1
    for place, _ in move:
        bottom = lcm(bottom, packs[place][0])
    whole = 0
    tops = [0] * (len(packs[move[0][0]]) - 1)
    for place, weight in move:
        pack = packs[place]
        factor = weight * (bottom // pack[0])
        whole = whole + weight
        tops = [top + factor * more for top, more in zip(tops, pack[1:])]
    return whole, bottom, tops


def best_pack(packs, sign):
    """The greatest one of some packs for the sign 1, the least one for -1."""
    best = packs[0]
    for pack in packs[1:]:
        if (sign > 0 and is_above(pack, best)) or (sign < 0 and is_above(best, pack)):
            best = pack
    return best

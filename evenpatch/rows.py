"""Lists of integers: products, common divisors, and what they are to each other."""

from math import gcd


def product_of(row, other):
    """The sum of the products of the items of two lists; the longer one's further items are left out."""
    return sum([x * y for x, y in zip(row, other)])


def common_divisor(items):
    """The greatest common divisor of integers, 0 if all of them are 0."""
    common = 0
    for item in items:
        common = gcd(common, item)
    return common


def shortened(items):
    """Integers, not all 0, divided by their greatest common divisor."""
    common = common_divisor(items)
    return [item // common for item in items]


def with_last(items, item, most):
    """The items of a list and one more behind them, without the first ones that are more than so many; a new list."""
    found = [*items, item]
    return found[max(0, len(found) - most):]


def is_same_way(items, others):
    """Whether two lists of integers from 0 on, neither with the sum 0, are to each other as the same shares."""
    whole = sum(items)
    other_whole = sum(others)
    return all([item * other_whole == other * whole for item, other in zip(items, others)])

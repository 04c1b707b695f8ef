"""What frames bring by all plans of both, each pair of them solved as equations: a plain second way."""

import itertools
from fractions import Fraction

INFINITE = None


def fractions_of(numbers):
    return tuple(Fraction(item.top, item.bottom) if hasattr(item, "top") else Fraction(item) for item in numbers)


def solve(matrix):
    """The solution of the equations of a matrix, whose rows have several items behind those of the unknowns."""
    many = len(matrix)
    for at in range(many):
        turn = next(row for row in range(at, many) if matrix[row][at] != 0)
        matrix[at], matrix[turn] = matrix[turn], matrix[at]
        pivot = matrix[at][at]
        matrix[at] = [item / pivot for item in matrix[at]]
        for row in range(many):
            if row != at and matrix[row][at] != 0:
                factor = matrix[row][at]
                matrix[row] = [x - factor * y for x, y in zip(matrix[row], matrix[at])]
    return [row[many:] for row in matrix]


def leaving(rows, taken):
    """The rows from which, by these moves, some place that is no row can be come to."""
    known = set()
    while True:
        more = {row for row in rows if row not in known and any(p not in taken or p in known for p, _ in taken[row])}
        if not more:
            return known
        known |= more


def brought_by(rows, taken, ends, never):
    """What each row brings if each has just one move."""
    ahead = leaving(rows, taken)
    inner = [row for row in rows if row in ahead]
    numbers = {row: at for at, row in enumerate(inner)}
    matrix = []
    for row in inner:
        whole = sum(weight for _, weight in taken[row])
        line = [Fraction(0)] * len(inner)
        line[numbers[row]] += 1
        tops = [Fraction(0)] * len(never)
        for place, weight in taken[row]:
            share = Fraction(weight, whole)
            if place in numbers:
                line[numbers[place]] -= share
            else:
                worth = ends[place] if place in ends else never
                tops = [top + share * item for top, item in zip(tops, worth)]
        matrix.append(line + tops)
    found = {row: tuple(item) for row, item in zip(inner, solve(matrix))}
    return {row: found.get(row, tuple(never)) for row in rows}


def counted_by(rows, taken, costs):
    """The mean of the costs that are passed from each row; INFINITE if they are passed without end."""
    reach = {row: {row} for row in rows}
    for _ in rows:
        for row in rows:
            for place, _ in taken[row]:
                if place in reach:
                    reach[row] |= reach[place]
    bad = set()
    closed = set()
    for row in rows:
        if all(row in reach[other] for other in reach[row]) and all(
                place in reach for other in reach[row] for place, _ in taken[other]):
            closed.add(row)
            if any(costs[other] for other in reach[row]):
                bad.add(row)
    free = [row for row in rows if not reach[row] & bad]
    inner = [row for row in free if row not in closed]
    numbers = {row: at for at, row in enumerate(inner)}
    matrix = []
    for row in inner:
        whole = sum(weight for _, weight in taken[row])
        line = [Fraction(0)] * len(inner)
        line[numbers[row]] += 1
        for place, weight in taken[row]:
            if place in numbers:
                line[numbers[place]] -= Fraction(weight, whole)
        matrix.append([*line, Fraction(costs[row])])
    found = {row: item[0] for row, item in zip(inner, solve(matrix))}
    return {row: found.get(row, Fraction(0)) if row in free else INFINITE for row in rows}


def plans_of(rows, moves):
    for picks in itertools.product(*[range(len(moves[row])) for row in rows]):
        yield dict(zip(rows, picks))


def taken_by(rows, moves, *plans):
    picks = {}
    for plan in plans:
        picks.update(plan)
    return {row: moves[row][picks.get(row, 0)] for row in rows}


def plan_count(rows, owners, moves):
    count = 1
    for row in rows:
        if owners[row] != "wheel":
            count *= len(moves[row])
    return count


def values_and_ranks(rows, owners, moves, ends, never, leader="A"):
    """The values and the ranks of rows by all plans; also whether one plan of the leader has the values everywhere."""
    mine = [row for row in rows if owners[row] == leader]
    others = [row for row in rows if owners[row] not in (leader, "wheel")]
    lists = []
    for plan in plans_of(mine, moves):
        tables = [brought_by(rows, taken_by(rows, moves, plan, other), ends, never) for other in plans_of(others, moves)]
        lists.append({row: min(table[row] for table in tables) for row in rows})
    values = {row: max(table[row] for table in lists) for row in rows}
    assert values in lists, "no plan has the values from every row"
    whole = {**ends, **values}
    kept = {row: [move for move in moves[row] if mean_behind(move, whole, never) == values[row]] for row in rows}
    assert all(kept.values())
    costs = {row: int(values[row] > tuple(never)) for row in rows}
    lists = []
    for plan in plans_of(mine, kept):
        tables = [counted_by(rows, taken_by(rows, kept, plan, other), costs) for other in plans_of(others, kept)]
        lists.append({row: greatest([table[row] for table in tables]) for row in rows})
    ranks = {row: least([table[row] for table in lists]) for row in rows}
    return values, ranks, kept


def mean_behind(move, worths, never):
    whole = sum(weight for _, weight in move)
    tops = [Fraction(0)] * len(never)
    for place, weight in move:
        worth = worths[place] if place in worths else never
        tops = [top + Fraction(weight, whole) * item for top, item in zip(tops, worth)]
    return tuple(tops)


def greatest(numbers):
    return INFINITE if INFINITE in numbers else max(numbers)


def least(numbers):
    found = [number for number in numbers if number is not INFINITE]
    return min(found) if found else INFINITE


def mean_behind_of(move, worths):
    """The mean of what is behind a move, all of whose places are known."""
    whole = sum(weight for _, weight in move)
    many = len(worths[move[0][0]])
    return tuple(sum(Fraction(weight, whole) * worths[place][at] for place, weight in move) for at in range(many))

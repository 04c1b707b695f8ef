"""Code: rows that a machine runs, and their lines."""

from evenpatch.coderows import is_asking, is_code_row, next_rows, put_by, row_line, row_of_line, taken_by
from evenpatch.errors import InvalidCode, InvalidLines

MOST_ROWS = 1400


class Code:
    """Rows of code with their heights and ranks."""

    def __init__(self, rows):
        if not is_code(rows):
            raise InvalidCode(rows)
        self.rows = tuple(rows)
        self.heights = tuple(heights_of(rows))
        self.ranks = tuple(ranks_of(rows))

    def __eq__(self, other):
        return isinstance(other, Code) and self.rows == other.rows


def is_code(value):
    """Whether any value is a code."""
    if not isinstance(value, (list, tuple)) or not 1 <= len(value) <= MOST_ROWS:
        return False
    many = len(value)
    if not all([is_code_row(row, many) for row in value]):
        return False
    if not all([(row[0] == "back") == (at == many - 1) for at, row in enumerate(value)]):
        return False
    return heights_of(value) is not None and ranks_of(value) is not None


def lines_of(code):
    """The list of the lines of the rows of a code."""
    need_code(code)
    return [row_line(row) for row in code.rows]


def read_code(lines):
    """The code with these lines."""
    if not isinstance(lines, (list, tuple)) or not all([isinstance(line, str) for line in lines]):
        raise InvalidLines(lines)
    if len(lines) > MOST_ROWS:
        raise InvalidLines(lines)
    rows = [row_of_line(line) for line in lines]
    if not is_code(rows) or not all([row_line(row) == line for row, line in zip(rows, lines)]):
        raise InvalidLines(lines)
    return Code(rows)


def need_code(code):
    """Refuses what is no Code."""
    if not isinstance(code, Code):
        raise InvalidCode(code)


def heights_of(rows):
    """The list of the heights of rows, None if some row has none, or is not met."""
    heights = [None] * len(rows)
    heights[0] = 0
    waiting = [0]
    while waiting:
        at = waiting.pop()
        row = rows[at]
        height = heights[at]
        if taken_by(row) > height or (is_asking(row) and height != 0):
            return None
        left = height - taken_by(row) + put_by(row)
        for other in next_rows(row, at):
            if heights[other] is None:
                heights[other] = left
                waiting.append(other)
            elif heights[other] != left:
                return None
    if None in heights:
        return None
    return heights


def ranks_of(rows):
    """The list of the ranks of rows, None if some row has none: then rows that do not ask lead to themselves again."""
    ahead = [[] for row in rows]
    left = [0] * len(rows)
    ranks = [0] * len(rows)
    ready = []
    for at, row in enumerate(rows):
        if is_asking(row):
            ready.append(at)
        else:
            for other in next_rows(row, at):
                ahead[other].append(at)
                left[at] = left[at] + 1
    count = 0
    while count < len(ready):
        at = ready[count]
        count += 1
        for other in ahead[at]:
            ranks[other] = max(ranks[other], ranks[at] + 1)
            left[other] = left[other] - 1
            if left[other] == 0:
                ready.append(other)
    if count < len(rows):
        return None
    return ranks

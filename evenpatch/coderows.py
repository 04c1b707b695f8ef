"""Single rows of code: their form, what they take and put, what may come behind them, and their lines."""

from evenpatch.faults import first_twice
from evenpatch.kinds import is_tuple_of, is_within
from evenpatch.spaces import is_word
from evenpatch.trees import GREATEST_NUMBER, is_pairs

PLAIN = ("add", "take", "times", "less", "same", "not", "and", "or", "loop", "back")
TAKES_TWO = ("add", "take", "times", "less", "same", "and", "or")
TAKES_ONE = ("save", "unless", "not")
PUTS = ("push", "load", "add", "take", "times", "less", "same", "not", "and", "or")
ASKS = ("loop", "draw", "spin", "choose", "call", "back")
NO_NEXT = ("go", "choose", "back")
MOST_DIGITS = 4


def is_code_row(value, many):
    """Whether any value is a row of code among so many rows."""
    if not isinstance(value, tuple) or len(value) == 0 or not isinstance(value[0], str):
        return False
    kind = value[0]
    if kind in PLAIN:
        return len(value) == 1
    if kind == "push":
        return len(value) == 2 and is_within(value[1], 0, GREATEST_NUMBER)
    if kind == "load" or kind == "save" or kind == "call":
        return len(value) == 2 and is_word(value[1])
    if kind == "unless" or kind == "go":
        return len(value) == 2 and is_within(value[1], 0, many - 1)
    if kind == "draw":
        return len(value) == 3 and is_word(value[1]) and is_wheel(value[2])
    if kind == "spin":
        return len(value) == 4 and is_within(value[1], 1, 3) and is_word(value[2]) and is_wheel(value[3])
    return kind == "choose" and len(value) == 3 and is_within(value[1], 0, 3) and is_fork(value[2], many)


def is_wheel(value):
    """Whether any value is a tuple of pairs with different values."""
    return is_pairs(value) and first_twice([item[0] for item in value]) is None


def is_fork(value, many):
    """Whether any value is a tuple of 2 or 3 tuples of different labels and numbers of rows."""
    if not isinstance(value, tuple) or not 2 <= len(value) <= 3:
        return False
    if not all([is_tuple_of(item, 2) and is_word(item[0]) and is_within(item[1], 0, many - 1) for item in value]):
        return False
    return first_twice([label for label, at in value]) is None


def is_asking(row):
    """Whether a row waits for an answer."""
    return row[0] in ASKS


def taken_by(row):
    """How many integers a row takes from the pile."""
    if row[0] in TAKES_TWO:
        return 2
    return 1 if row[0] in TAKES_ONE else 0


def put_by(row):
    """How many integers a row puts on the pile."""
    return 1 if row[0] in PUTS else 0


def next_rows(row, at):
    """The list of the numbers of the rows that may come behind the row with a number."""
    kind = row[0]
    found = []
    if kind == "unless" or kind == "go":
        found.append(row[1])
    elif kind == "choose":
        found.extend([target for label, target in row[2]])
    if kind not in NO_NEXT:
        found.append(at + 1)
    return found


def row_line(row):
    """The line of a row."""
    words = []
    for item in row:
        if not isinstance(item, tuple):
            words.append(str(item))
        elif row[0] == "choose":
            words.extend([f"{label} {at}" for label, at in item])
        else:
            words.extend([f"{value} by {weight}" for value, weight in item])
    return " ".join(words)


def row_of_line(line):
    """The row whose line this is, if it is the line of one; otherwise anything that is none, or has another line."""
    words = line.split(" ")
    kind = words[0]
    items = tuple([integer_of(word) for word in words[1:]])
    if kind == "draw":
        return kind, *items[:1], pairs_of(items[1:])
    if kind == "spin":
        return kind, *items[:2], pairs_of(items[2:])
    if kind == "choose":
        return kind, *items[:1], tuple(list(zip(items[1::2], items[2::2])))
    return kind, *items


def pairs_of(items):
    """The pairs of a wheel that stand in a line."""
    return tuple(list(zip(items[::3], items[2::3])))


def integer_of(word):
    """The integer that a word is, or the word itself."""
    if 1 <= len(word) <= MOST_DIGITS and all([sign in "0123456789" for sign in word]):
        return int(word)
    return word

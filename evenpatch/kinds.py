"""What kinds of values there are, for any value."""


def is_whole(value):
    """Whether any value is an integer other than True and False."""
    return isinstance(value, int) and not isinstance(value, bool)


def is_within(value, low, high):
    """Whether any value is an integer from low to high."""
    return is_whole(value) and low <= value <= high


def is_row_of(value, many):
    """Whether any value is a list, or a tuple, of so many items."""
    return isinstance(value, (list, tuple)) and len(value) == many


def is_tuple_of(value, many):
    """Whether any value is a tuple of so many items; a list is none."""
    return isinstance(value, tuple) and len(value) == many

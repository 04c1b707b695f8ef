"""What expressions and conditions mean in a store, and what the parts of wheels bring."""


def worth_of(tree, values):
    """The integer that an expression is where the names have these values."""
    kind = tree[0]
    if kind == "num":
        return tree[1]
    if kind == "name":
        return values[tree[1]]
    one = worth_of(tree[1], values)
    other = worth_of(tree[2], values)
    if kind == "+":
        return one + other
    if kind == "-":
        return one - other
    return one * other


def holds(tree, values):
    """Whether a condition holds where the names have these values."""
    kind = tree[0]
    if kind == "yes":
        return True
    if kind == "not":
        return not holds(tree[1], values)
    if kind == "and":
        return holds(tree[1], values) and holds(tree[2], values)
    if kind == "or":
        return holds(tree[1], values) or holds(tree[2], values)
    one = worth_of(tree[1], values)
    other = worth_of(tree[2], values)
    if kind == "less":
        return one < other
    return one == other


def wheel_size(pairs):
    """How many parts the wheel of a draw or a spin has."""
    return sum([weight for value, weight in pairs])


def value_of_part(pairs, part):
    """The value to which a part of a wheel belongs."""
    left = part
    for value, weight in pairs:
        if left < weight:
            return value
        left = left - weight
    return None

"""What stands in the bodies of systems."""


def bodies_of(statement):
    """The tuple of the bodies of a statement, in order."""
    kind = statement[0]
    if kind == "choose":
        return tuple([body for label, body in statement[2]])
    if kind == "if" or kind == "while":
        return statement[2:]
    return ()


def walked(body, ahead):
    """The list of the tuples (path, statement) of all statements of a body, ascending; `ahead` is where it stands."""
    found = []
    for at, statement in enumerate(body):
        path = (*ahead, at)
        found.append((path, statement))
        for index, inner in enumerate(bodies_of(statement)):
            found.extend(walked(inner, (*path, index)))
    return found


def words_within(tree):
    """The list of the names in an expression or a condition, from left to right."""
    kind = tree[0]
    if kind == "name":
        return [tree[1]]
    if kind == "num":
        return []
    found = []
    for inner in tree[1:]:
        found.extend(words_within(inner))
    return found


def count_of(body):
    """How many statements a body has, those in its statements too."""
    return len(walked(body, ()))

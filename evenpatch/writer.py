"""Writing the texts of systems."""


def system_lines(system):
    """The lines of the text of a system."""
    parties, names, units = system
    lines = [f"parties {parties}"]
    for name, size in names:
        lines.append(f"name {name} {size}")
    for unit, body in units:
        lines.extend(unit_lines(unit, body))
    return lines


def unit_lines(unit, body):
    """The lines of a unit, its closing one too."""
    return [" ".join(["unit", unit, "{"]), *body_lines(body, "  "), "}"]


def body_lines(body, margin):
    """The lines of the statements of a body, each one behind a margin."""
    lines = []
    for statement in body:
        lines.extend(statement_lines(statement, margin))
    return lines


def statement_lines(statement, margin):
    """The lines of a statement, those in its bodies too."""
    kind = statement[0]
    inner = margin + "  "
    if kind == "choose":
        return choice_lines(statement, margin)
    if kind == "if":
        start = " ".join([margin + "if", condition_text(statement[1]), "{"])
        first = body_lines(statement[2], inner)
        return [start, *first, margin + "} else {", *body_lines(statement[3], inner), margin + "}"]
    if kind == "while":
        start = " ".join([margin + "while", condition_text(statement[1]), "{"])
        return [start, *body_lines(statement[2], inner), margin + "}"]
    return [margin + plain_text(statement)]


def choice_lines(statement, margin):
    """The lines of a choose, those in its bodies too."""
    start = f"choose {who_text(statement[1])}"
    lines = []
    for label, body in statement[2]:
        lines.append(" ".join([margin + start, label, "{"]))
        lines.extend(body_lines(body, margin + "  "))
        start = "} or"
    return [*lines, margin + "}"]


def plain_text(statement):
    """The line of a statement without bodies."""
    kind = statement[0]
    if kind == "set":
        return f"set {statement[1]} = {expression_text(statement[2])}"
    if kind == "draw":
        return f"draw {statement[1]} {pairs_text(statement[2])}"
    if kind == "spin":
        return f"spin {who_text(statement[1])} {statement[2]} {pairs_text(statement[3])}"
    return f"call {statement[1]}"


def who_text(who):
    """The piece of a party, or of the net."""
    if who == 0:
        return "net"
    return f"p{who}"


def pairs_text(pairs):
    """Values with their weights."""
    return " ".join([f"{value} by {weight}" for value, weight in pairs])


def expression_text(tree):
    """An expression."""
    if len(tree) == 2:
        return str(tree[1])
    return f"{operand_text(tree[1])} {tree[0]} {operand_text(tree[2])}"


def operand_text(tree):
    """An expression that stands in another one."""
    if len(tree) == 2:
        return str(tree[1])
    return f"({expression_text(tree)})"


def condition_text(tree):
    """A condition."""
    kind = tree[0]
    if kind == "yes":
        return "yes"
    if kind == "not":
        return f"not [{condition_text(tree[1])}]"
    if kind == "less":
        return f"{expression_text(tree[1])} < {expression_text(tree[2])}"
    if kind == "same":
        return f"{expression_text(tree[1])} = {expression_text(tree[2])}"
    return f"[{condition_text(tree[1])}] {kind} [{condition_text(tree[2])}]"

"""Compiling bodies to code."""

from evenpatch.checks import with_body
from evenpatch.code import Code

SIGNS = {"+": "add", "-": "take", "*": "times"}


def compiled(system, unit, body):
    """The code of a body."""
    with_body(system, unit, body)
    return code_of(body)


def row_numbers(system, unit, body):
    """The ascending list of the tuples (path, number) of what asks in a body, with the number of its row."""
    with_body(system, unit, body)
    return numbers_of(body)


def code_of(body):
    """The code of what surely is a fair body."""
    return Code(Compiler(body).rows)


def numbers_of(body):
    """The ascending list of the tuples (path, number) of what surely is a fair body."""
    return sorted(Compiler(body).numbers)


class Compiler:
    """Lays the rows of a body; a row that leads where it is not known yet is laid later."""

    def __init__(self, body):
        self.rows = []
        self.numbers = []
        self._write_body(body, ())
        self.rows.append(("back",))

    def _write_body(self, body, ahead):
        for at, statement in enumerate(body):
            self._write(statement, (*ahead, at))

    def _write(self, statement, path):
        kind = statement[0]
        if kind == "set":
            self._write_tree(statement[2])
            self.rows.append(("save", statement[1]))
        elif kind == "if":
            self._write_if(statement, path)
        elif kind == "while":
            self._write_while(statement, path)
        elif kind == "choose":
            self._write_choose(statement, path)
        else:
            self.numbers.append((path, len(self.rows)))
            self.rows.append(statement)

    def _write_tree(self, tree):
        kind = tree[0]
        if kind == "num":
            self.rows.append(("push", tree[1]))
        elif kind == "name":
            self.rows.append(("load", tree[1]))
        elif kind == "yes":
            self.rows.append(("push", 1))
        else:
            for part in tree[1:]:
                self._write_tree(part)
            self.rows.append((SIGNS.get(kind, kind),))

    def _write_if(self, statement, path):
        self._write_tree(statement[1])
        unless = self._hole()
        self._write_body(statement[2], (*path, 0))
        go = self._hole()
        self.rows[unless] = ("unless", len(self.rows))
        self._write_body(statement[3], (*path, 1))
        self.rows[go] = ("go", len(self.rows))

    def _write_while(self, statement, path):
        start = len(self.rows)
        self._write_tree(statement[1])
        unless = self._hole()
        self.numbers.append((path, len(self.rows)))
        self.rows.append(("loop",))
        self._write_body(statement[2], (*path, 0))
        self.rows.append(("go", start))
        self.rows[unless] = ("unless", len(self.rows))

    def _write_choose(self, statement, path):
        fork = self._hole()
        self.numbers.append((path, fork))
        targets = []
        goes = []
        for index, (label, body) in enumerate(statement[2]):
            if index > 0:
                goes.append(self._hole())
            targets.append((label, len(self.rows)))
            self._write_body(body, (*path, index))
        self.rows[fork] = ("choose", statement[1], tuple(targets))
        for go in goes:
            self.rows[go] = ("go", len(self.rows))

    def _hole(self):
        """The number of a row that is laid later."""
        self.rows.append(())
        return len(self.rows) - 1

"""Linear programs over integers, solved exactly, without any quotient."""

from evenpatch.rows import product_of, shortened


class Tableau:
    """A basis of integer columns that mixes, by weights from 0 on, to a target; sought is the least sum of costs.

    Each number in `rows` is to be divided by `scale`, which keeps all of them integers. Row 0 is that of the costs;
    each other row belongs to a column of the basis, whose number `names` tells: None for a unit column of the
    beginning. A row has a number for each unit column, those of the inverse of the basis, and behind them the one for
    the target.
    """

    def __init__(self, target, cost):
        many = len(target)
        self.scale = 1
        self.names = [None] * (many + 1)
        self.rows = [[-cost] * many + [-cost * sum(target)]]
        for at, worth in enumerate(target):
            self.rows.append([int(at == other) for other in range(many)] + [worth])

    def direction(self, column, cost):
        """What a column is in the basis, row by row; the first number is what it adds to the sum of costs."""
        found = [product_of(row, column) for row in self.rows]
        found[0] = found[0] + self.scale * cost
        return found

    def leaving(self, direction):
        """The row that a column takes, such that all weights stay from 0 on and no basis ever comes again."""
        tied = [at for at in range(1, len(self.rows)) if direction[at] > 0]
        # The target is compared first, then the inverse: rows of an inverse differ, so one row is left in the end.
        place = -1
        while len(tied) > 1:
            best = tied[0]
            for at in tied:
                if self.rows[at][place] * direction[best] < self.rows[best][place] * direction[at]:
                    best = at
            least = self.rows[best][place]
            tied = [at for at in tied if self.rows[at][place] * direction[best] == least * direction[at]]
            place += 1
        return tied[0]

    def enter(self, at, name, direction):
        """Lets a column take the place of the one that a row has."""
        pivot = direction[at]
        turned = self.rows[at]
        sign = 1 if pivot > 0 else -1
        rows = []
        for row, lost in zip(self.rows, direction):
            rows.append([sign * (x * pivot - lost * y) // self.scale for x, y in zip(row, turned)])
        rows[at] = [sign * item for item in turned]
        self.rows = rows
        self.scale = sign * pivot
        self.names[at] = name

    def run(self, columns, costs):
        """Seeks the least sum of costs; costs are from 0 on, so that the sum 0 ends it."""
        sizes = [sum([abs(item) for item in column]) for column in columns]
        while self.rows[0][-1] != 0:
            name = self.entering(columns, costs, sizes)
            if name is None:
                return
            direction = self.direction(columns[name], costs[name])
            self.enter(self.leaving(direction), name, direction)

    def entering(self, columns, costs, sizes):
        """The number of the column that lowers the sum most for its size, None if none lowers it."""
        row = self.rows[0]
        best = None
        lowest_price = 0
        for name, column in enumerate(columns):
            price = product_of(row, column) + self.scale * costs[name]
            if price < 0 and (best is None or price * sizes[best] < lowest_price * sizes[name]):
                best = name
                lowest_price = price
        return best

    def weights(self, many):
        """The weights of the first columns, so many, to be divided by the scale."""
        found = [0] * many
        for name, row in zip(self.names, self.rows):
            if name is not None and name < many:
                found[name] = row[-1]
        return found


def weighed(columns, target):
    """A tuple (weights, scale, payoff): integers from 0 on, one for each column, that weigh the columns to the target
    multiplied by the scale, and None; or None, None and integers whose product with the target is above 0, and with no
    column. The items of the target are from 0 on."""
    table = Tableau(target, 1)
    table.run(columns, [0] * len(columns))
    if table.rows[0][-1] == 0:
        return table.weights(len(columns)), table.scale, None
    return None, None, shortened([-item for item in table.rows[0][:-1]])

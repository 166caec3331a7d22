"""Sums of rows that are taken at least 0 times, by the simplex method over integers."""


def cone(rows, point):
    """Return either how a point is a sum of rows, each taken at least 0 times, or why it is none.

    The first is told as (multiples, scale, None), where the rows, taken as often as the multiples
    tell, sum up to the point taken scale times, and the scale is above 0. The second one is told as
    (None, 0, weights), by which each row weighs at least 0, and the point less than 0. The point has
    at least one number.
    """
    table = Table(rows, point)
    while table.costs[-1] != 0:
        column = table.entering()
        if column is None:
            return (None, 0, table.weights())
        table.turn(table.leaving(column), column)
    return (table.multiples(), table.scale, None)


class Table:
    """What a point is made up of, with a row for each number of it.

    At first it is made up by helpers, one for each number, which cost 1; then rows take their
    places, until the cost is 0, or no row would lower it. The rows are told apart by their
    indexes, the helpers by the numbers behind these.
    """

    def __init__(self, rows, point):
        self.many = len(rows)
        self.signs = [_sign(number) for number in point]
        # The table has no column for what it is made up of, as that has a number in its own row only.
        self.outside = list(range(self.many))
        self.basis = [self.many + place for place in range(len(point))]
        # All numbers are to be read as divided by the scale, so that they stay integers.
        self.scale = 1
        self.table = []
        for place, sign in enumerate(self.signs):
            # A helper is taken at least 0 times, too: so the last column must have no minus.
            self.table.append([sign * row[place] for row in rows] + [sign * point[place]])
        self.costs = [-sum(column) for column in zip(*self.table)]

    def entering(self):
        """Return the column of the first row that would lower the cost, None if there is none."""
        # The first one, here and among those that leave, as else the same tables could come back.
        best = None
        for column, cost in enumerate(self.costs[:-1]):
            own = self.outside[column]
            if cost < 0 and own < self.many and (best is None or own < self.outside[best]):
                best = column
        return best

    def leaving(self, column):
        """Return the place of what limits how often the row of a column can be taken."""
        best = None
        for place, row in enumerate(self.table):
            if row[column] > 0:
                if best is None:
                    best = place
                else:
                    here = row[-1] * self.table[best][column]
                    there = self.table[best][-1] * row[column]
                    if here < there or (here == there and self.basis[place] < self.basis[best]):
                        best = place
        return best

    def turn(self, place, column):
        """Let what is of a column change its place with what is of a row of the table."""
        turning = self.table[place]
        self.costs = _cleared(self.costs, turning, column, self.scale)
        turned = turning[:column] + [self.scale] + turning[column + 1:]
        self.table = [
            turned if at == place else _cleared(row, turning, column, self.scale)
            for at, row in enumerate(self.table)
        ]
        self.scale = turning[column]
        own = self.basis[place]
        self.basis[place] = self.outside[column]
        self.outside[column] = own

    def multiples(self):
        """Return how often each row is taken."""
        told = [0] * self.many
        for own, row in zip(self.basis, self.table):
            if own < self.many:
                told[own] = row[-1]
        return told

    def weights(self):
        """Return weights by which no row, but the point, weighs less than 0."""
        costs = {own: 0 for own in self.basis}
        for own, cost in zip(self.outside, self.costs):
            costs[own] = cost
        return [
            sign * (costs[self.many + place] - self.scale) for place, sign in enumerate(self.signs)
        ]


def _sign(number):
    """Return -1 for a number below 0, otherwise 1."""
    if number < 0:
        return -1
    return 1


def _cleared(row, turning, column, scale):
    """Return a row of the table behind the turn of another one by a column."""
    pivot = turning[column]
    factor = row[column]
    if factor == 0 and pivot == scale:
        return row
    # The scale goes into each of these numbers: they are determinants.
    told = [
        (pivot * number - factor * other) // scale for number, other in zip(row, turning)
    ]
    told[column] = -factor
    return told

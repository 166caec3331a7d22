"""Sums of rows that are taken at least 0 times, by the simplex method over integers."""


def cone(rows, point):
    """Return either how a point is a sum of rows, each taken at least 0 times, or why it is none.

    The first is told as (multiples, scale, None), where the rows, taken as often as the multiples
    tell, sum up to the point taken scale times, and the scale is above 0. The second one is told as
    (None, 0, weights), by which each row weighs at least 0, and the point less than 0.
    """
    many = len(rows)
    table = _table(rows, point)
    basis = [many + place for place in range(len(point))]
    # All numbers of the table are to be read as divided by the scale, so that they stay integers.
    scale = 1
    column = _entering(table, many)
    while column is not None:
        place = _leaving(table, basis, column)
        table = _turned(table, place, column, scale)
        scale = table[place][column]
        basis[place] = column
        column = _entering(table, many)
    if table[-1][-1] == 0:
        return (_multiples(table, basis, many), scale, None)
    return (None, 0, _weights(table, point, many, scale))


def _table(rows, point):
    """Return a row for each number of the point, and a last one, of what it costs to miss it.

    The columns are those of the rows, those of a helper for each number of the point, which costs
    1, and that of the point. The helpers make up the point at first: so it must have no minus.
    """
    table = []
    for place, number in enumerate(point):
        sign = _sign(number)
        helpers = [0] * len(point)
        helpers[place] = 1
        table.append([sign * row[place] for row in rows] + helpers + [sign * number])
    costs = [0] * len(rows) + [1] * len(point) + [0]
    for row in table:
        costs = [cost - number for cost, number in zip(costs, row)]
    return table + [costs]


def _sign(number):
    """Return -1 for a number below 0, otherwise 1."""
    if number < 0:
        return -1
    return 1


def _entering(table, many):
    """Return the first column of a row that would lower the cost, None if there is none."""
    # The first one, here and among the rows that leave, as else the same tables could come back.
    for column, cost in enumerate(table[-1][:many]):
        if cost < 0:
            return column
    return None


def _leaving(table, basis, column):
    """Return the place of the row that limits how often the row of a column can be taken."""
    best = None
    for place, own in enumerate(basis):
        row = table[place]
        if row[column] > 0:
            if best is None:
                best = place
            else:
                here = row[-1] * table[best][column]
                there = table[best][-1] * row[column]
                if here < there or (here == there and own < basis[best]):
                    best = place
    return best


def _turned(table, place, column, scale):
    """Return the table in which only the row of a place has a number in a column."""
    turning = table[place]
    pivot = turning[column]
    told = []
    for at, row in enumerate(table):
        if at == place:
            told.append(row)
        else:
            # The scale goes into each of these numbers: they are determinants.
            told.append([
                (pivot * number - row[column] * other) // scale
                for number, other in zip(row, turning)
            ])
    return told


def _multiples(table, basis, many):
    """Return how often each row is taken in the table."""
    multiples = [0] * many
    for place, column in enumerate(basis):
        if column < many:
            multiples[column] = table[place][-1]
    return multiples


def _weights(table, point, many, scale):
    """Return weights by which no row, but the point, weighs less than 0."""
    costs = table[-1][many:-1]
    return [_sign(number) * (cost - scale) for number, cost in zip(point, costs)]

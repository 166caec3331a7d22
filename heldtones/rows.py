"""Rows of integers, and the least rows that have the same sums of multiples."""


def added(one, other, many):
    """Return the first row plus the other one, taken many times."""
    return [left + many * right for left, right in zip(one, other)]


def weighed(weights, row):
    """Return the sum of the numbers of a row, each times its weight."""
    return sum([weight * number for weight, number in zip(weights, row)])


def least_rows(rows, width):
    """Return rows with the same sums of multiples, in the least form of the first columns.

    Each row's first number that is not 0 is above 0, and stands behind that of the row ahead; in
    the rows ahead the numbers in its column are at least 0 and less than it. Rows that have only 0
    in the first columns are left out.
    """
    found = []
    left = rows
    for column in range(width):
        left = _gathered(left, column)
        if left != [] and left[0][column] != 0:
            row = left[0]
            if row[column] < 0:
                row = [-number for number in row]
            found = [added(ahead, row, -(ahead[column] // row[column])) for ahead in found]
            found = found + [row]
            left = left[1:]
    return found


def remainder(row, least):
    """Return a row less such multiples of least rows that no more of them goes into it."""
    left = row
    for other in least:
        column = leading(other)
        left = added(left, other, -(left[column] // other[column]))
    return left


def leading(row):
    """Return the column of the first number of a row that is not 0, None if there is none."""
    for column, number in enumerate(row):
        if number != 0:
            return column
    return None


def bar(least, column, width):
    """Return (modulus, weights) that tell the sums of least rows from a row that is none.

    Each least row weighs a multiple of the modulus; a row whose first number that is not 0 stands
    in the column, and is no multiple of that of a least row there, does not.
    """
    weights = [0] * width
    weights[column] = 1
    # Backward, as a least row is made to weigh nothing by its own first column alone, in which the
    # rows behind it have 0.
    for row in least[::-1]:
        own = leading(row)
        if own < column:
            rest = weighed(weights, row)
            weights = [row[own] * weight for weight in weights]
            weights[own] = -rest
    modulus = 0
    for row in least:
        if leading(row) == column:
            modulus = weights[column] * row[column]
    return (modulus, weights)


def _gathered(rows, column):
    """Return rows with the same sums, of which at most the first one has not 0 in a column."""
    if rows == []:
        return []
    first = rows[0]
    others = []
    for row in rows[1:]:
        first, cleared = _divided(first, row, column)
        others.append(cleared)
    return [first] + others


def _divided(one, other, column):
    """Return two rows with the same sums, the second one with 0 in a column, by dividing in turn."""
    while other[column] != 0:
        one, other = other, added(one, other, -(one[column] // other[column]))
    return (one, other)

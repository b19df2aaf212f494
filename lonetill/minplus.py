"""Least sums along ways: rows are dicts from places to COUNTS, matrices lists of rows.

What a row does not have is no way.
"""


def lesser(one, other):
    """The lesser of two worths, None being none."""
    if one is None or other is None:
        return other if one is None else one
    return min(one, other)


def raised_row(row, price):
    """The row with all worths more by a price."""
    return {place: worth + price for place, worth in row.items()}


def row_of_both(row, other):
    """The row of the lesser worths of both."""
    out = dict(row)
    for place, worth in other.items():
        if place not in out or worth < out[place]:
            out[place] = worth
    return out


def least_of_both(one, two):
    """The matrix of the lesser worths of both."""
    return [row_of_both(row, other) for row, other in zip(one, two)]


def turned_over(matrix):
    """The matrix with rows and columns exchanged."""
    out = [{} for _ in matrix]
    for place, row in enumerate(matrix):
        for goal, price in row.items():
            out[goal][place] = price
    return out


def row_behind(row, matrix):
    """The least sums of a row of worths and a step of the matrix behind it."""
    out = {}
    for place, worth in row.items():
        for goal, price in matrix[place].items():
            known = out.get(goal)
            if known is None or worth + price < known:
                out[goal] = worth + price
    return out


def column_ahead(matrix, column):
    """The least sums of a step of the matrix and a column of worths behind it."""
    return row_behind(column, turned_over(matrix))


def behind_one(one, two):
    """The least sums of a step of the one matrix and a step of the other behind it."""
    return [row_behind(row, two) for row in one]


def no_ways(many):
    """The matrix without ways."""
    return [{} for _ in range(many)]


def by_middle(row, middle, steps):
    """The row of worths with what the steps from the middle let, too."""
    return row_of_both(row, raised_row(steps, row[middle])) if middle in row else row


def any_steps(matrix):
    """The least sums of any number of steps, perhaps none."""
    out = [row_of_both(row, {place: 0}) for place, row in enumerate(matrix)]
    for middle in range(len(out)):
        steps = out[middle]
        out = [by_middle(row, middle, steps) for row in out]
    return out


def row_far_behind(row, matrix, steps):
    """The least sums of a row of worths and so many steps behind it."""
    while steps > 0 and len(row) > 0:
        if steps % 2 == 1:
            row = row_behind(row, matrix)
        steps = steps // 2
        if steps > 0:
            matrix = behind_one(matrix, matrix)
    return row


def column_far_ahead(matrix, column, steps):
    """The least sums of so many steps and a column of worths behind them."""
    return row_far_behind(column, turned_over(matrix), steps)


def only_at(place):
    """The row, or column, that begins at a place: 0 there, no way elsewhere."""
    return {place: 0}

"""Least sums along ways: matrices of COUNTS, None where there is no way."""


def lesser(one, other):
    """The lesser of two worths, None being none."""
    if one is None or other is None:
        return other if one is None else one
    return min(one, other)


def least_sum(row, column):
    """The least sum of two worths at the same position; None without one."""
    return min([one + other for one, other in zip(row, column) if one is not None and other is not None], default=None)


def least_of_both(one, two):
    """The matrix of the lesser worths of both."""
    return [[lesser(left, right) for left, right in zip(row, other)] for row, other in zip(one, two)]


def columns_of(matrix):
    """The matrix with rows and columns exchanged."""
    return [[row[k] for row in matrix] for k in range(len(matrix))]


def row_behind(row, matrix):
    """The least sums of a row of worths and a step of the matrix behind it."""
    return [least_sum(row, column) for column in columns_of(matrix)]


def column_ahead(matrix, column):
    """The least sums of a step of the matrix and a column of worths behind it."""
    return [least_sum(row, column) for row in matrix]


def behind_one(one, two):
    """The least sums of a step of the one matrix and a step of the other behind it."""
    columns = columns_of(two)
    return [[least_sum(row, column) for column in columns] for row in one]


def nothing_done(many):
    """The matrix of no step at all."""
    return [[0 if k == at else None for k in range(many)] for at in range(many)]


def no_ways(many):
    """The matrix without ways."""
    return [[None] * many for _ in range(many)]


def any_steps(matrix):
    """The least sums of any number of steps, perhaps none."""
    out = least_of_both(matrix, nothing_done(len(matrix)))
    while True:
        more = behind_one(out, out)
        if more == out:
            return out
        out = more


def row_far_behind(row, matrix, steps):
    """The least sums of a row of worths and so many steps behind it."""
    while steps > 0:
        if steps % 2 == 1:
            row = row_behind(row, matrix)
        steps = steps // 2
        if steps > 0:
            matrix = behind_one(matrix, matrix)
    return row


def only_at(many, place):
    """The row, or column, that begins at a place: 0 there, no way elsewhere."""
    return [0 if k == place else None for k in range(many)]

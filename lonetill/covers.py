"""Boxes that cover a matrix of masks: lists of rows, lists of columns and a mask, as great as they go.

A box lies within the matrix if each cell of its rows and columns has all bits of its mask.
"""

from lonetill.masks import many_ones, ones

# The sequences in which a box grows along its rows (0), its columns (1) and its mask (2).
ORDERS = ((0, 1, 2), (0, 2, 1), (1, 0, 2), (1, 2, 0), (2, 0, 1), (2, 1, 0))


def rows_for(matrix, columns, mask):
    """All rows whose cells in these columns have the mask."""
    return [k for k, row in enumerate(matrix) if all([row[column] & mask == mask for column in columns])]


def columns_for(matrix, rows, mask):
    """All columns whose cells in these rows have the mask."""
    if len(rows) == 0:
        return []
    return [column for column in range(len(matrix[0])) if all([matrix[k][column] & mask == mask for k in rows])]


def mask_for(matrix, rows, columns):
    """The bits that all cells of these rows and columns have."""
    out = matrix[rows[0]][columns[0]]
    for k in rows:
        for column in columns:
            out = out & matrix[k][column]
    return out


def grown(matrix, seed, order):
    """The box that grows from a cell with one bit in this sequence."""
    rows, columns, mask = seed
    for way in order:
        if way == 0:
            rows = rows_for(matrix, columns, mask)
        elif way == 1:
            columns = columns_for(matrix, rows, mask)
        else:
            mask = mask_for(matrix, rows, columns)
    return (rows, columns, mask)


def many_new(left, box):
    """How many bits that are left the box covers."""
    rows, columns, mask = box
    return sum([many_ones(left[k][column] & mask) for k in rows for column in columns])


def best_box(matrix, left, seed):
    """Of the boxes that grow from the seed the one that covers most of what is left."""
    best, most = None, 0
    for order in ORDERS:
        box = grown(matrix, seed, order)
        many = many_new(left, box)
        if many > most:
            best, most = box, many
    return best


def less_box(left, box):
    """What is left behind a box."""
    rows, columns, mask = box
    return [[cell ^ (cell & mask) if k in rows and column in columns else cell for column, cell in enumerate(row)]
            for k, row in enumerate(left)]


def seed_in(left):
    """A cell and a bit of it that are left; None if nothing is."""
    for k, row in enumerate(left):
        for column, cell in enumerate(row):
            if cell != 0:
                return ([k], [column], 1 << ones(cell)[0])
    return None


def boxes_over(least, most):
    """Boxes within the matrix most that together have all bits of the matrix least."""
    left = [list(row) for row in least]
    out = []
    seed = seed_in(left)
    while seed is not None:
        box = best_box(most, left, seed)
        out.append(box)
        left = less_box(left, box)
        seed = seed_in(left)
    return out

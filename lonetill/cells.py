"""Two lists of triples looked at together, cell by cell: a part of all n, and a part of all m.

Within a cell a pair hangs on its difference alone: a cell holds a mask that tells with which parts
of the differences its pairs are in what is made.
"""

from lonetill.axes import axis_of, labels_of, rows_among
from lonetill.covers import boxes_over
from lonetill.masks import full, ones
from lonetill.rows import joined_bits
from lonetill.seeks import next_number
from lonetill.triples import key_of, merged, with_pairs

# A greater matrix is told row by row.
MOST_CELLS = 2000


def unlike_lots(lots):
    """The lots of rows, each once, and for each of the passed ones its position among them."""
    places = {}
    for rows in lots:
        places.setdefault(key_of(rows), len(places))
    return ([list(key) for key in places], [places[key_of(rows)] for rows in lots])


def holders_of(label, places):
    """The mask of the triples whose lot, at its place among the unlike ones, has the part of this label."""
    out = 0
    for position, place in enumerate(places):
        if (label >> place) & 1 == 1:
            out = out | (1 << position)
    return out


class Side:
    """One side of all triples: its axis, the parts of it, and for each part which triples have it."""

    def __init__(self, triples, side, low):
        lots, places = unlike_lots([triple[side] for triple in triples])
        self.axis = axis_of(lots, low)
        self.parts = labels_of(self.axis)
        self.holders = [holders_of(label, places) for label in self.parts]

    def rows_at(self, positions):
        """The rows of the parts at these positions."""
        chosen = {self.parts[position]: True for position in positions}
        return rows_among(self.axis, chosen)


def parts_of_triples(side, many):
    """For each of so many triples the mask of the parts of the side that it has."""
    out = [0] * many
    for part, mask in enumerate(side.holders):
        for position in ones(mask):
            out[position] = out[position] | (1 << part)
    return out


def united_masks(masks, chosen):
    """All bits of the masks at the chosen positions."""
    out = 0
    for position in ones(chosen):
        out = out | masks[position]
    return out


def matrix_of(word, sides, many, total):
    """The rows of the cells; the first so many of the triples are of the one list, all others of the other."""
    held = parts_of_triples(sides[2], total)
    known = {}
    out = []
    for mask in sides[0].holders:
        row = []
        for other in sides[1].holders:
            both = mask & other
            if both not in known:
                ours = both & full(many)
                known[both] = joined_bits(word, united_masks(held, ours), united_masks(held, both ^ ours))
            row.append(known[both])
        out.append(row)
    return out


def grouped(rows):
    """The unlike rows that have a cell above 0, and for each the list of its positions."""
    places = {}
    for position, row in enumerate(rows):
        if any([cell != 0 for cell in row]):
            places.setdefault(tuple(row), []).append(position)
    return ([list(row) for row in places], [places[row] for row in places])


class Cells:
    """What a word makes of two lists of triples: a matrix, its rows and columns being lots of parts."""

    def __init__(self, word, one, two):
        both = list(one) + list(two)
        self.sides = [Side(both, 0, 0), Side(both, 1, 0), Side(both, 2, None)]
        rows, lots = grouped(matrix_of(word, self.sides, len(one), len(both)))
        columns, others = grouped([[row[k] for row in rows] for k in range(len(self.sides[1].parts))])
        self.matrix = [[column[k] for column in columns] for k in range(len(rows))]
        self.row_lots = [self.sides[0].rows_at(lot) for lot in lots]
        self.column_lots = [self.sides[1].rows_at(lot) for lot in others]
        self.lots = lots
        self.others = others

    def triple(self, rows, columns, mask):
        """The triple of these rows and columns of the matrix, with these parts of the differences."""
        return (self.sides[0].rows_at([position for k in rows for position in self.lots[k]]),
                self.sides[1].rows_at([position for k in columns for position in self.others[k]]),
                self.sides[2].rows_at(ones(mask)))

    def plain_triples(self):
        """Triples of all cells: one for each row and each mask in it."""
        out = []
        for k, row in enumerate(self.matrix):
            places = {}
            for column, mask in enumerate(row):
                if mask != 0:
                    places.setdefault(mask, []).append(column)
            out.extend([self.triple([k], places[mask], mask) for mask in places])
        return out

    def near_parts(self):
        """For each cell the mask of the parts of the differences that are not too far for it."""
        parts = [self.sides[2].rows_at([part]) for part in range(len(self.sides[2].parts))]
        hulls = [(rows[0][0], rows[-1][1]) for rows in self.row_lots]
        others = [(rows[0][0], rows[-1][1]) for rows in self.column_lots]
        return [[parts_between(parts, None if high is None else first - high, None if last is None else last - low)
                 for first, last in others] for low, high in hulls]

    def few_triples(self):
        """Triples of the cells, as few as a greedy look finds."""
        near = self.near_parts()
        least = [[cell & near[k][column] for column, cell in enumerate(row)] for k, row in enumerate(self.matrix)]
        most = [[cell | (near[k][column] ^ full(len(self.sides[2].parts))) for column, cell in enumerate(row)]
                for k, row in enumerate(self.matrix)]
        return [self.triple(rows, columns, mask) for rows, columns, mask in boxes_over(least, most)]


def parts_between(parts, low, high):
    """The mask of those of the rows that have a number from low to high (None: no end)."""
    out = 0
    for position, rows in enumerate(parts):
        found = rows[0][0] if low is None else next_number(rows, low)
        if (found is None and low is None) or (found is not None and (high is None or found <= high)):
            out = out | (1 << position)
    return out


def made(word, one, two):
    """The triples of what the word makes of both lists."""
    cells = Cells(word, one, two)
    if len(cells.row_lots) * len(cells.column_lots) <= MOST_CELLS:
        return merged(with_pairs(cells.few_triples()))
    return merged(with_pairs(cells.plain_triples()))


def left_over(one, two):
    """Triples, perhaps without pairs, of what is in the one list and not in the other."""
    return Cells("less", one, two).plain_triples()

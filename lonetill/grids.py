"""Grids: sets of pairs of COUNTS that finitely many blocks tell."""

from lonetill.basics import is_list
from lonetill.blocks import is_block
from lonetill.cells import left_over, made
from lonetill.checks import check_many, check_number, check_ways
from lonetill.ends import true_rectangles
from lonetill.errors import InvalidBlocks, InvalidGrid, TooMany
from lonetill.lines import Line, check_line, line_of_rows
from lonetill.plains import Plains
from lonetill.rows import combined
from lonetill.triples import COUNTS, INTEGERS, each_once, ends_of, first_pair, has_pair, first_start, merged
from lonetill.triples import shared, shifted_triple, starts_of, triple_of, turned_triple, with_pairs

MOST_PASSED = 200
MOST_BLOCKS = 4000
# So many pairs of blocks are shared one by one, more of them cell by cell.
MOST_SHARED = 64


def check_blocks(blocks):
    """InvalidBlocks unless it is a list of blocks, TooMany if there are too many."""
    if not is_list(blocks):
        raise InvalidBlocks(None)
    for position, block in enumerate(blocks):
        if not is_block(block):
            raise InvalidBlocks(position)
    if len(blocks) > MOST_PASSED:
        raise TooMany("blocks", MOST_PASSED)


def every_triple():
    """The triples of all pairs."""
    return [(list(COUNTS), list(COUNTS), list(INTEGERS))]


def triples_of(blocks):
    """The triples of the blocks that have a pair, each once."""
    return with_pairs(each_once([triple_of(block) for block in blocks]))


class Grid:
    """A set of pairs of COUNTS; it never changes."""

    def __init__(self, blocks=()):
        check_blocks(blocks)
        self._triples = triples_of(blocks)

    @classmethod
    def every(cls):
        """The Grid of all pairs."""
        return cls([(None, None, None)])

    @classmethod
    def none(cls):
        """The Grid without pairs."""
        return cls()

    def triples(self):
        """Its blocks as triples of rows, each of them with a pair."""
        return list(self._triples)

    def __or__(self, other):
        check_grid(other)
        return grid_of_triples(merged(self._triples + other.triples()))

    def __and__(self, other):
        check_grid(other)
        others = other.triples()
        if len(self._triples) * len(others) > MOST_SHARED:
            return grid_of_triples(made("and", self._triples, others))
        both = [shared(one, two) for one in self._triples for two in others]
        return grid_of_triples(merged(with_pairs(both)))

    def __sub__(self, other):
        check_grid(other)
        return grid_of_triples(made("less", self._triples, other.triples()))

    def __eq__(self, other):
        if not isinstance(other, Grid):
            return NotImplemented
        return is_left_out(self._triples, other.triples()) and is_left_out(other.triples(), self._triples)

    def other(self):
        """The Grid of all other pairs of COUNTS."""
        return grid_of_triples(made("less", every_triple(), self._triples))

    def turned(self):
        """The Grid of (m, n) for each of its pairs (n, m)."""
        return grid_of_triples([turned_triple(triple) for triple in self._triples])

    def shifted(self, first, second):
        """The Grid of its pairs moved by two numbers, as far as both are COUNTS."""
        check_number(first)
        check_number(second)
        return grid_of_triples(with_pairs([shifted_triple(triple, first, second) for triple in self._triples]))

    def has(self, start, end):
        """Whether the pair is in it."""
        check_many(start)
        check_many(end)
        return any([has_pair(triple, start, end) for triple in self._triples])

    def at(self, start):
        """The Line of all m for which (start, m) is in it."""
        check_many(start)
        return line_of_rows(ends_of(self._triples, start))

    def some(self):
        """The Line of all n for which some m makes a pair of it."""
        return line_of_rows(starts_of(self._triples))

    def each(self):
        """The Line of all n for which all COUNTS m make a pair of it."""
        lacking = starts_of(left_over(every_triple(), self._triples))
        return line_of_rows(combined("less", list(COUNTS), lacking))

    @property
    def is_empty(self):
        """Whether it has no pair."""
        return len(self._triples) == 0

    def first(self):
        """Its first pair; None without one."""
        return first_pair(self._triples)

    def is_within(self, grid):
        """Whether the passed one has all its pairs."""
        check_grid(grid)
        return is_left_out(self._triples, grid.triples())

    def parting(self, grid):
        """The first pair that is in just one of both; None if they are equal."""
        check_grid(grid)
        others = grid.triples()
        return first_pair(left_over(self._triples, others) + left_over(others, self._triples))

    def blocks(self):
        """A list of blocks that tells it."""
        return [tuple([line_of_rows(rows) for rows in triple]) for triple in self._triples]


def is_left_out(one, two):
    """Whether no pair is in the one list of triples and not in the other."""
    return all([first_start(triple) is None for triple in left_over(one, two)])


def check_grid(grid):
    """InvalidGrid unless it is a Grid."""
    if not isinstance(grid, Grid):
        raise InvalidGrid(grid)


def grid_of_triples(triples):
    """The Grid of these triples, each of them with a pair."""
    if len(triples) > MOST_BLOCKS:
        raise TooMany("blocks", MOST_BLOCKS)
    grid = Grid()
    grid._triples = triples
    return grid


def plain_blocks(house, place, goal):
    """The blocks of what plain goings lead to."""
    out = []
    for extra, gains in Plains(house).extras(place, goal):
        beyond = Line([(extra, None, 1, [0])])
        out.append((beyond, None, gains.part(0, None)))
        out.append((None, beyond, gains.part(None, -1)))
    return out


def reach(house, place, goal):
    """The Grid of all (n, m) for which the stand (place, n) leads to the stand (goal, m)."""
    check_ways(house, place, goal)
    boxes = [(starts, ends, None) for starts, ends in true_rectangles(house, place, goal)]
    return grid_of_triples(triples_of(plain_blocks(house, place, goal) + boxes))


def within(grid, line, other):
    """The Grid of the pairs with n in the line and m in the other one."""
    check_grid(grid)
    check_line(line)
    check_line(other)
    return grid & Grid([(line, other, None)])


def is_blocks_of(grid, value):
    """Whether any value is a list of at most 200 blocks that tells the grid."""
    check_grid(grid)
    if not is_list(value) or len(value) > MOST_PASSED or not all([is_block(block) for block in value]):
        return False
    return grid == Grid(value)

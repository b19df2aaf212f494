"""Grids put together one behind another."""

from lonetill.basics import is_list
from lonetill.checks import check_many
from lonetill.errors import InvalidGrids
from lonetill.grids import Grid, check_grid, grid_of_triples
from lonetill.middling import all_through

MOST_GRIDS = 6


def composed(grid, other_grid):
    """The Grid of all (n, m) with some k, (n, k) in the one and (k, m) in the other grid."""
    check_grid(grid)
    check_grid(other_grid)
    return grid_of_triples(all_through(grid.triples(), other_grid.triples()))


def middles(grid, other_grid, start, end):
    """The Line of all k with (start, k) in the one and (k, end) in the other grid."""
    check_grid(grid)
    check_grid(other_grid)
    check_many(start)
    check_many(end)
    return grid.at(start) & other_grid.turned().at(end)


def chained(grids):
    """All of a list of Grids composed from the left."""
    if not is_list(grids) or not 1 <= len(grids) <= MOST_GRIDS:
        raise InvalidGrids(grids)
    if not all([isinstance(grid, Grid) for grid in grids]):
        raise InvalidGrids(grids)
    out = grids[0]
    for grid in grids[1:]:
        out = composed(out, grid)
    return out

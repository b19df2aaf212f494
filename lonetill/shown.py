"""Showings: what a saying and each of its parts mean, told in full."""

from lonetill.cells import made
from lonetill.errors import TooMany
from lonetill.grids import grid_of_triples, is_blocks_of
from lonetill.looks import is_line_of
from lonetill.sayings import check_saying, parts_of
from lonetill.senses import sense_of

MOST_BLOCKS = 200


def blocks_of(grid):
    """A list of at most 200 blocks that tells the grid."""
    blocks = grid.blocks()
    if len(blocks) > MOST_BLOCKS:
        blocks = grid_of_triples(made("or", grid.triples(), [])).blocks()
    if len(blocks) > MOST_BLOCKS:
        raise TooMany("blocks", MOST_BLOCKS)
    return blocks


def told_of(sense):
    """What is told of a sense: a bool, a list of stretches or a list of blocks."""
    letters, value = sense
    if letters == "":
        return value
    return blocks_of(value) if letters == "mn" else value.stretches()


def showing_of(house, saying):
    """A showing of a saying of the house."""
    told = told_of(sense_of(house, saying, True))
    return (told,) + tuple([showing_of(house, part) for part in parts_of(saying)])


def shown(house, saying):
    """A showing of the saying."""
    check_saying(house, saying)
    return showing_of(house, saying)


def tells(sense, told):
    """Whether any value tells just this sense."""
    letters, value = sense
    if letters == "":
        return isinstance(told, bool) and told == value
    return is_blocks_of(value, told) if letters == "mn" else is_line_of(value, told)


def has_parts(saying, value):
    """Whether any value is a tuple of something told, and so for each part of the saying in turn."""
    parts = parts_of(saying)
    if not isinstance(value, tuple) or len(value) != 1 + len(parts):
        return False
    return all([has_parts(part, value[k + 1]) for k, part in enumerate(parts)])


def all_told(house, saying, value):
    """Whether all that a value with the right parts tells is so."""
    if not all([all_told(house, part, value[k + 1]) for k, part in enumerate(parts_of(saying))]):
        return False
    return tells(sense_of(house, saying, True), value[0])


def is_shown(house, saying, value):
    """Whether any value is a showing of the saying."""
    check_saying(house, saying)
    return has_parts(saying, value) and all_told(house, saying, value)

"""What sayings mean: tuples (letters, value), the value a bool, a Line or a Grid by the free letters.

A not is led down to the leaves on the way, so of grids only those of leaves are ever turned into their others.
"""

from lonetill.grids import Grid, reach
from lonetill.lines import Line, line_of_rows
from lonetill.rows import combined, united
from lonetill.sayings import CONTRARIES, free_letters
from lonetill.seeks import has_number


def counts_of(line):
    """The Line of the COUNTS of a line."""
    return line.part(0, None)


def lacking(line):
    """The Line of all COUNTS that are not in it."""
    return Line.counts() - line


def along_diagonal(grid):
    """The Line of all n for which (n, n) is in the Grid."""
    lots = [combined("and", first, second) for first, second, far in grid.triples() if has_number(far, 0)]
    return line_of_rows(united(lots))


def leads_sense(house, leaf, is_right):
    """What a leaf "leads" means, or its not."""
    _, place, letter, goal, other = leaf
    grid = reach(house, place, goal)
    if letter == other:
        line = along_diagonal(grid)
        return (letter, line if is_right else lacking(line))
    if not is_right:
        grid = grid.other()
    return ("mn", grid if letter == "n" else grid.turned())


def below_sense(leaf, is_right):
    """What a leaf "below" means, or its not."""
    _, letter, other, number = leaf
    if letter == other:
        return (letter, Line.counts() if (number >= 0) == is_right else Line())
    far = Line([(0 - number, None, 1, [0])]) if letter == "n" else Line([(None, number, 1, [0])])
    return ("mn", Grid([(None, None, far if is_right else far.other())]))


def leaf_sense(house, leaf, is_right):
    """What a leaf means, or its not."""
    if leaf[0] == "leads":
        return leads_sense(house, leaf, is_right)
    if leaf[0] == "below":
        return below_sense(leaf, is_right)
    return (leaf[1], counts_of(leaf[2]) if is_right else lacking(leaf[2]))


def line_as_grid(letter, line):
    """The Grid of all pairs whose number of this letter is in the line."""
    return Grid([(line, None, None)]) if letter == "n" else Grid([(None, line, None)])


def raised_to(letters, sense):
    """The value of a sense as one of these letters, its own ones among them."""
    own, value = sense
    if own == letters:
        return value
    if len(letters) == 2 and len(own) == 1:
        return line_as_grid(own, value)
    if len(letters) == 2:
        return Grid.every() if value else Grid.none()
    return Line.counts() if value else Line()


def letters_together(one, other):
    """The letters of both, sorted."""
    return "".join([letter for letter in "mn" if letter in one or letter in other])


def both_senses(word, one, other):
    """What two senses make by "and" or "or"."""
    letters = letters_together(one[0], other[0])
    left, right = raised_to(letters, one), raised_to(letters, other)
    if letters == "":
        return (letters, (left and right) if word == "and" else (left or right))
    return (letters, left & right if word == "and" else left | right)


def some_sense(letter, sense):
    """For which numbers of the other letters the sense holds for some number of this one."""
    letters, value = sense
    if letter not in letters:
        return sense
    if len(letters) == 1:
        return ("", not value.is_empty)
    return ("n", value.some()) if letter == "m" else ("m", value.turned().some())


def none_sense(sense):
    """What is left beside a sense without letters, or with one."""
    letters, value = sense
    return (letters, not value) if letters == "" else (letters, lacking(value))


def bound_sense(house, saying, is_right):
    """What a "some" or "all" means, or its not: a "some", or what is left beside one."""
    word, letter, part = saying
    if letter not in free_letters(part):
        return sense_of(house, part, is_right)
    sense = some_sense(letter, sense_of(house, part, word == "some"))
    return sense if (word == "some") == is_right else none_sense(sense)


def sense_of(house, saying, is_right):
    """What a saying means, or, where it is not right, its not."""
    word = saying[0]
    if word == "not":
        return sense_of(house, saying[1], not is_right)
    if word in ("some", "all"):
        return bound_sense(house, saying, is_right)
    if word in ("and", "or"):
        kind = word if is_right else CONTRARIES[word]
        return both_senses(kind, sense_of(house, saying[1], is_right), sense_of(house, saying[2], is_right))
    return leaf_sense(house, saying, is_right)

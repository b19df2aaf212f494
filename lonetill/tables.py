"""Gain tables: dicts that show where plain goings do not lead."""

from lonetill.basics import is_count, is_integer, is_list
from lonetill.checks import check_place, check_stands
from lonetill.lines import Line
from lonetill.plains import Plains
from lonetill.rows import part_of, shifted_rows
from lonetill.seeks import is_covered


def gain_table(house, place):
    """The dict of the extras of all goals."""
    check_place(house, place)
    plains = Plains(house)
    return {goal: plains.extras(place, goal) for goal in range(house.places)}


def is_entry(value):
    """Whether any value is an entry: a tuple of a COUNT and a Line."""
    return isinstance(value, tuple) and len(value) == 2 and is_count(value[0]) and isinstance(value[1], Line)


def are_entries(value):
    """Whether any value is a list of entries."""
    return is_list(value) and all([is_entry(entry) for entry in value])


def is_for_all(house, value):
    """Whether any value is a dict from all places of the house, and nothing else."""
    if not isinstance(value, dict) or len(value) != house.places:
        return False
    return all([is_integer(place) and 0 <= place < house.places for place in value])


def has_table_form(house, value):
    """Whether any value is a dict from all places to lists of entries."""
    return is_for_all(house, value) and all([are_entries(value[place]) for place in value])


def lots_to(entries, most):
    """The rows of the lines of all entries with a count at most so great."""
    return [line.rows() for count, line in entries if count <= most]


def follows(change, entry, entries):
    """Whether a deed of this change leads from all that the entry tells to what the entries tell."""
    count, line = entry
    rows = line.rows()
    if change == 0:
        return is_covered(rows, lots_to(entries, count))
    # A deed up from below 0 may need one more, a deed down from 0 or below one less.
    above = part_of(rows, 0 if change == 1 else 1, None)
    below = part_of(rows, None, -1 if change == 1 else 0)
    most = count + 1 if change == 1 else max(count, 1) - 1
    return (is_covered(shifted_rows(above, change), lots_to(entries, count))
            and is_covered(shifted_rows(below, change), lots_to(entries, most)))


def is_closed_table(house, place, table):
    """Whether a table by its form tells the gain 0 of the place, and what all plain deeds lead to."""
    if not any([count == 0 and line.has(0) for count, line in table[place]]):
        return False
    for begin, change, goal, when in house.deeds():
        if when == "any" and not all([follows(change, entry, table[goal]) for entry in table[begin]]):
            return False
    return True


def lets(entry, start, end):
    """Whether the entry lets this start and this end."""
    count, line = entry
    return line.has(end - start) and start >= max(0, start - end) + count


def is_gain_table(house, place, value):
    """Whether any value is a gain table of the place."""
    check_place(house, place)
    return has_table_form(house, value) and is_closed_table(house, place, value)


def shuts(house, place, start, goal, end, value):
    """Whether any value is a gain table of which no entry of the goal lets this start and end."""
    check_stands(house, place, start, goal, end)
    if not has_table_form(house, value) or any([lets(entry, start, end) for entry in value[goal]]):
        return False
    return is_closed_table(house, place, value)

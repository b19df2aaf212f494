"""Papers that are closed under all deeds: they show what does not lead."""

from lonetill.boxes import are_rectangles
from lonetill.checks import check_many, check_place, check_stands
from lonetill.ends import true_rectangles
from lonetill.lines import Line
from lonetill.plains import Plains
from lonetill.rows import part_of, shifted_rows
from lonetill.seeks import has_number, is_covered, lies_within
from lonetill.tables import are_entries, is_closed_table, is_for_all
from lonetill.totals import mirrored_rows

MOST_RECTANGLES = 40


def has_counts_alone(value):
    """Whether any value is a Line of COUNTS, perhaps of none."""
    if not isinstance(value, Line):
        return False
    return value.is_empty or (value.least() is not None and value.least() >= 0)


def stays(deed, paper):
    """Whether the deed leads from no number of the paper's Lines out of them."""
    place, change, goal, when = deed
    rows, behind = paper[place].rows(), paper[goal].rows()
    if when == "empty":
        return not has_number(rows, 0) or has_number(behind, change)
    return lies_within(part_of(shifted_rows(rows, change), 0, None), behind)


def closes(house, place, start, value):
    """Whether any value is a closed paper of the stand (place, start)."""
    if not is_for_all(house, value) or not all([has_counts_alone(value[middle]) for middle in value]):
        return False
    return value[place].has(start) and all([stays(deed, value) for deed in house.deeds()])


def is_closed(house, place, start, value):
    """Whether any value is a closed paper of the stand (place, start)."""
    check_place(house, place)
    check_many(start)
    return closes(house, place, start, value)


def bars(house, place, start, goal, end, value):
    """Whether any value is a closed paper of the first stand that leaves the stand (goal, end) out."""
    check_stands(house, place, start, goal, end)
    return closes(house, place, start, value) and not value[goal].has(end)


def all_closed(house, place):
    """An all-closed paper of the place that bars all that does not lead."""
    check_place(house, place)
    plains = Plains(house)
    return {goal: (plains.extras(place, goal), true_rectangles(house, place, goal)) for goal in range(house.places)}


def is_part(value):
    """Whether any value is a tuple of a list of entries and a list of rectangles."""
    if not isinstance(value, tuple) or len(value) != 2:
        return False
    return are_entries(value[0]) and are_rectangles(value[1], MOST_RECTANGLES)


def has_all_form(house, value):
    """Whether any value is by its form an all-closed paper."""
    return is_for_all(house, value) and all([is_part(value[goal]) for goal in value])


def boxes_with(boxes, number):
    """The rectangles with this number among their ends."""
    return [(starts, ends) for starts, ends in boxes if ends.has(number)]


def any_deed_stays(change, boxes, others):
    """Whether a deed of this change leads from the rectangles to what the others tell of the goal."""
    for starts, ends in boxes:
        wider = [more.rows() for wide, more in others if starts.is_within(wide)]
        if not is_covered(part_of(shifted_rows(ends.rows(), change), 0, None), wider):
            return False
    return True


def empty_deed_stays(boxes, others):
    """Whether an "empty" deed leads from the rectangles to the others, those that have its change."""
    return all([any([starts.is_within(wide) for wide, _ in others]) for starts, _ in boxes_with(boxes, 0)])


def empties_are_told(entries, others):
    """Whether all starts with which plain goings come to 0 are among those of the others."""
    lots = [wide.rows() for wide, _ in others]
    return all([is_covered(part_of(mirrored_rows(line.rows()), 0, None), lots)
                for count, line in entries if count == 0])


def keeps(deed, paper):
    """Whether the deed leads from nothing that the rectangles and gains of the paper tell out of it."""
    place, change, goal, when = deed
    entries, boxes = paper[place]
    others = paper[goal][1]
    if when == "any":
        return any_deed_stays(change, boxes, others)
    fitting = boxes_with(others, change)
    return empty_deed_stays(boxes, fitting) and empties_are_told(entries, fitting)


def closes_all(house, place, paper):
    """Whether an all-closed paper by its form is closed."""
    gains = {goal: paper[goal][0] for goal in paper}
    return is_closed_table(house, place, gains) and all([keeps(deed, paper) for deed in house.deeds()])


def is_all_closed(house, place, value):
    """Whether any value is an all-closed paper of the place."""
    check_place(house, place)
    return has_all_form(house, value) and closes_all(house, place, value)


def leaves_out(part, start, end):
    """Whether no tuple of the gains and no rectangle lets this start and this end."""
    entries, boxes = part
    if any([count <= min(start, end) and line.has(end - start) for count, line in entries]):
        return False
    return not any([starts.has(start) and ends.has(end) for starts, ends in boxes])


def bars_all(house, place, start, goal, end, value):
    """Whether any value is an all-closed paper of the place that leaves this start, goal and end out."""
    check_stands(house, place, start, goal, end)
    if not has_all_form(house, value) or not leaves_out(value[goal], start, end):
        return False
    return closes_all(house, place, value)

"""Roofs of goings, goings under the least roof, and Lines that are closed under a roof."""

from lonetill.checks import check_many, check_place, check_stands
from lonetill.closed import has_counts_alone
from lonetill.courses import course_of
from lonetill.errors import InvalidGoing
from lonetill.roofs import lowest_roof
from lonetill.rows import part_of, shifted_rows
from lonetill.seeks import has_number, lies_within
from lonetill.shafts import shaft_of
from lonetill.stairs import going_under
from lonetill.tables import is_for_all


def peak_within(deeds, going):
    """The tuple (gain, most): what a going by its form gains, and how much it comes above its first number."""
    gain, most = 0, 0
    for item in going:
        if isinstance(item, tuple):
            more, high = peak_within(deeds, item[0])
            # Of several laps that gain the last one is the highest.
            high = high + max(0, more) * (item[1] - 1) if item[1] > 0 else 0
            more = more * item[1]
        else:
            more = deeds[item][1]
            high = more
        most = max(most, gain + high)
        gain = gain + more
    return (gain, most)


def check_doing(house, place, start, going):
    """What is due for a going that is done from the stand (place, start)."""
    check_place(house, place)
    check_many(start)
    if not course_of(house, going).fits(place, start):
        raise InvalidGoing(going)


def roof_of(house, place, start, going):
    """The least roof under which the going is, done from the stand (place, start)."""
    check_doing(house, place, start, going)
    return start + peak_within(house.deeds(), going)[1]


def is_under(house, place, start, going, roof):
    """Whether the going, done from the stand (place, start), is under the roof."""
    check_doing(house, place, start, going)
    check_many(roof)
    return start + peak_within(house.deeds(), going)[1] <= roof


def low_going(house, place, start, goal, end):
    """A going under the least roof from the one stand to the other one; None if it does not lead there."""
    check_stands(house, place, start, goal, end)
    shaft = shaft_of(house)
    roof = lowest_roof(house, shaft, place, start, goal, end)
    return None if roof is None else going_under(house, shaft, ((place, start), (goal, end)), roof)


def stays_under(deed, roof, paper):
    """Whether the deed leads from no number of the paper's Lines to one up to the roof that is not in them."""
    place, change, goal, when = deed
    rows, behind = paper[place].rows(), paper[goal].rows()
    if when == "empty":
        return not has_number(rows, 0) or change > roof or has_number(behind, change)
    return lies_within(part_of(shifted_rows(rows, change), 0, roof), behind)


def is_low(line, roof):
    """Whether the Line of COUNTS has no number above the roof."""
    return line.is_empty or (line.greatest() is not None and line.greatest() <= roof)


def closes_under(house, place, start, roof, value):
    """Whether any value is a dict from all places to Lines that are closed under the roof from the stand."""
    if not is_for_all(house, value) or not all([has_counts_alone(value[middle]) for middle in value]):
        return False
    if not all([is_low(value[middle], roof) for middle in value]) or not value[place].has(start):
        return False
    return all([stays_under(deed, roof, value) for deed in house.deeds()])


def is_roof_closed(house, place, start, roof, value):
    """Whether any value is a dict from all places to Lines that are closed under the roof from the stand."""
    check_place(house, place)
    check_many(start)
    check_many(roof)
    return closes_under(house, place, start, roof, value)


def roof_bars(house, place, start, goal, end, roof, value):
    """Whether any value is such a dict, from the first stand, that leaves the stand (goal, end) out."""
    check_stands(house, place, start, goal, end)
    check_many(roof)
    return closes_under(house, place, start, roof, value) and not value[goal].has(end)

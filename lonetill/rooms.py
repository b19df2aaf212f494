"""All pairs that lead to one another under a roof that is so much above the greater number, as triples of rows.

A trail tells a mask of places for each number: a tuple of a list, and the position from which it comes again.
"""

from math import lcm

from lonetill.errors import TooMany
from lonetill.flights import fall_trail
from lonetill.masks import full, turned
from lonetill.orbits import orbit_at
from lonetill.relations import image
from lonetill.rows import PERIOD, tidy, trimmed
from lonetill.totals import mirrored_rows
from lonetill.triples import COUNTS, each_once, merged, turned_triple, with_pairs


def rows_of_flags(flags, back):
    """The rows of the numbers whose flag is set, those from the position back on coming again."""
    period = len(flags) - back
    if period > PERIOD:
        raise TooMany("period", PERIOD)
    bits = 0
    for number, flag in enumerate(flags):
        if flag:
            bits = bits | (1 << number)
    near = trimmed((0, back - 1, back, bits & full(back))) if back > 0 else []
    return tidy(near + trimmed((back, None, period, turned(bits >> back, period, back))))


def zero_trail(shaft, place, spare):
    """By the numbers at the place the places at 0 to which drops lead from there, the roof so much above it."""
    drops = fall_trail(shaft, 1 << place, spare)
    back = max(drops[1], shaft.lid_top() - spare) + 1
    period = len(drops[0]) - drops[1]
    masks = [1 << place]
    for number in range(1, back + period):
        last = image(shaft.lid(number - 1 + spare), orbit_at(drops, number - 1))
        masks.append(image(shaft.last_downs, last))
    return (masks, back)


def turned_zeros(shaft, place, spare):
    """By the numbers at the place the places at 0 to which it leads, the roof so much above it."""
    zeros = zero_trail(shaft, place, spare)
    back = max(zeros[1], shaft.lid_top() + 1)
    period = len(zeros[0]) - zeros[1]
    masks = [image(shaft.turns_under(number + spare), orbit_at(zeros, number)) for number in range(back + period)]
    return (masks, back)


def plain_falls(shaft, place, goal, spare, least):
    """The triples of plain goings that lead down by at least so much, the roof so much above their beginning."""
    drops = fall_trail(shaft, 1 << place, spare)
    back = max(drops[1], shaft.lid_top() - spare, least)
    many = back + len(drops[0]) - drops[1]
    top = shaft.floor_top()
    out = []
    for low in range(top + 1):
        bands = [shaft.band(low, down + spare) for down in range(back + 1)]
        flags = [down >= least and (image(bands[min(down, back)], orbit_at(drops, down)) >> goal) & 1 == 1
                 for down in range(many)]
        ends = [(low, low if low < top else None, 1, 1)]
        out.append((list(COUNTS), ends, mirrored_rows(rows_of_flags(flags, back))))
    return out


def rows_of_meetings(one, two, ahead):
    """The rows of the numbers at which the one trail, so much ahead, and the other one have a place together."""
    back = max(one[1] - ahead, two[1], 0)
    many = back + lcm(len(one[0]) - one[1], len(two[0]) - two[1])
    if many - back > PERIOD:
        raise TooMany("period", PERIOD)
    flags = [orbit_at(one, number + ahead) & orbit_at(two, number) != 0 for number in range(many)]
    return rows_of_flags(flags, back)


def rows_with_place(trail, place):
    """The rows of the numbers at which the trail has the place."""
    return rows_of_flags([(mask >> place) & 1 == 1 for mask in trail[0]], trail[1])


def falls_by_zero(shaft, other, ends, spare, least):
    """The triples of goings that stand at 0, and lead down by at least so much, the roof so much above their beginning.

    The other shaft is the first one with all deeds led back: what rises to an end falls from it there.
    """
    place, goal = ends
    zeros = turned_zeros(shaft, place, spare)
    # From so many less on the roof is so far above the end that all lids up to it are alike.
    far = max(least, shaft.lid_top() - spare)
    out = []
    for down in range(least, far):
        rows = rows_of_meetings(zeros, zero_trail(other, goal, spare + down), down)
        out.append((list(COUNTS), rows, [(0 - down, 0 - down, 1, 1)]))
    beyond = zero_trail(other, goal, spare + far)
    for middle in range(len(shaft.flats)):
        out.append((rows_with_place(zeros, middle), rows_with_place(beyond, middle), [(None, 0 - far, 1, 1)]))
    return out


def falls_with_room(shaft, other, ends, spare, least):
    """The triples of all goings that lead down by at least so much, the roof so much above their beginning."""
    return plain_falls(shaft, ends[0], ends[1], spare, least) + falls_by_zero(shaft, other, ends, spare, least)


def pairs_with_room(shaft, place, goal, many):
    """The triples of all pairs (n, m) that lead from the place to the goal under the greater one and many more."""
    other = shaft.led_the_other_way()
    downs = falls_with_room(shaft, other, (place, goal), many, 0)
    ups = falls_with_room(other, shaft, (goal, place), many, 1)
    found = downs + [turned_triple(triple) for triple in ups]
    return merged(with_pairs(each_once(found)))

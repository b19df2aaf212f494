"""Flights: the places that are come to at each number from a low one to a high one, under a roof."""

from lonetill.masks import turned
from lonetill.orbits import orbit_at, orbit_of
from lonetill.relations import image
from lonetill.rows import row_of_bits, tidy, trimmed, united


def bits_with(masks, place):
    """The mask of the positions of those masks that have the place."""
    bits = 0
    for position, mask in enumerate(masks):
        bits = bits | (((mask >> place) & 1) << position)
    return bits


class Flight:
    """The masks of the places at all numbers from low to high.

    From first to last they come again with a period, if there is room for more than one; all other
    ones are kept one by one. The function at tells the mask of a number.
    """

    def __init__(self, ends, plain, period, at):
        low, high = ends
        first, last = plain
        self._ends = ends
        if last - first < period:
            first, last = high + 1, high
        self._middle = (first, last)
        self._near = [at(number) for number in range(low, first)]
        self._again = [at(first + k) for k in range(period)] if first <= last else []
        self._far = [at(number) for number in range(last + 1, high + 1)]

    def rows_of_place(self, place):
        """The rows of the numbers at which the place is come to."""
        low, high = self._ends
        first, last = self._middle
        out = []
        if len(self._near) > 0:
            out.extend(trimmed(row_of_bits(low, len(self._near), bits_with(self._near, place))))
        if len(self._again) > 0:
            many = len(self._again)
            out.extend(trimmed((first, last, many, turned(bits_with(self._again, place), many, first))))
        if len(self._far) > 0:
            out.extend(trimmed(row_of_bits(last + 1, high - last, bits_with(self._far, place))))
        return tidy(out)


def rising(shaft, mask, low, roof):
    """The Flight from the mask's places at the number low up to the roof."""
    top = shaft.lid_top()
    level = max(low, roof - top)
    orbit = orbit_of(shaft.climb_relation(top), mask)
    far = [orbit_at(orbit, level - low)]
    for number in range(level + 1, roof + 1):
        far.append(image(shaft.lid(roof - number), image(shaft.ups, far[-1])))
    back = orbit[1]
    return Flight((low, roof), (low + back, level), len(orbit[0]) - back,
                  lambda number: orbit_at(orbit, number - low) if number <= level else far[number - level])


def fall_trail(shaft, mask, spare):
    """The masks behind 0, 1, .. drops from what is so much below the roof, and from where on they come again."""
    top = shaft.lid_top()
    masks = [mask]
    for room in range(spare, top):
        masks.append(image(shaft.downs, image(shaft.lid(room), masks[-1])))
    more, back = orbit_of(shaft.drop_relation(top), masks[-1])
    return (masks[:-1] + more, len(masks) - 1 + back)


def falling(shaft, mask, start, roof):
    """The Flight of plain goings from the mask's places at the start to all lesser numbers above 0."""
    trail = fall_trail(shaft, mask, roof - start)
    last = min(start - trail[1], roof - shaft.lid_top())
    return Flight((1, start - 1), (max(1, shaft.floor_top()), last), len(trail[0]) - trail[1],
                  lambda number: image(shaft.band(number, roof - number), orbit_at(trail, start - number)))


def flights_from(shaft, place, start, roof):
    """The Flights of all goings from the stand (place, start) under the roof, which is not below it."""
    zeros = image(shaft.turns_under(roof), shaft.zeros(1 << place, start, roof))
    out = [rising(shaft, shaft.band(start, roof - start)[place], start, roof),
           Flight((0, 0), (1, 0), 1, lambda number: zeros)]
    if start > 1:
        out.append(falling(shaft, 1 << place, start, roof))
    if roof > 0:
        out.append(rising(shaft, shaft.begun(zeros, roof), 1, roof))
    return out


def lots_under(shaft, place, start, roof):
    """For each place the rows of the numbers with which goings from the stand under the roof come to it."""
    flights = flights_from(shaft, place, start, roof) if start <= roof else []
    return [united([flight.rows_of_place(goal) for flight in flights]) for goal in range(len(shaft.flats))]

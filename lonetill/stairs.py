"""Goings under a roof, told in laps."""

from lonetill.marches import march
from lonetill.masks import ones
from lonetill.orbits import orbit_at, orbit_of
from lonetill.plots import as_items
from lonetill.relations import image, led_back
from lonetill.searches import deeds_to, plain_ways, searched


class Stairs:
    """The deeds of what a Shaft tells; what was once found is kept."""

    def __init__(self, house, shaft):
        self._house = house
        self._shaft = shaft
        self._ways = plain_ways(house)
        self._found = {}

    def _least_lid(self, place, goal):
        """The least room whose lid has the pair (there is one)."""
        room = 0
        while (self._shaft.lid(room)[place] >> goal) & 1 == 0:
            room += 1
        return room

    def _back(self, place, goal):
        """The deeds of a plain going of gain 0 that never falls, and rises no higher than it must."""
        if (place, goal) not in self._found:
            came = searched(self._ways, (place, 0), self._least_lid(place, goal))
            self._found[(place, goal)] = deeds_to(came, (goal, 0))
        return self._found[(place, goal)]

    def band_items(self, place, goal, low, high):
        """The items of a plain going of gain 0 that falls at most low, and rises at most high."""
        low, high = min(low, self._shaft.floor_top()), min(high, self._shaft.lid_top())
        return as_items(deeds_to(searched(self._ways, (place, low), low + high), (goal, low)))

    def up(self, place, goal, room, kinds):
        """The deeds of a deed up that can be done then, and what has so much room behind it."""
        lid = self._shaft.lid(room)
        for position, (begin, change, middle, when) in enumerate(self._house.deeds()):
            if begin == place and change == 1 and when in kinds and (lid[middle] >> goal) & 1 == 1:
                return [position] + self._back(middle, goal)
        return None

    def down(self, place, goal, room):
        """The deeds of what has so much room, and a deed down behind it."""
        for middle in ones(self._shaft.lid(room)[place]):
            for position, change, behind in self._ways[middle]:
                if change == -1 and behind == goal:
                    return self._back(place, middle) + [position]
        return None

    def _along(self, places, is_up):
        """The items of a going along these places, with room enough for all lids."""
        top, out = self._shaft.lid_top(), []
        for step in range(1, len(places)):
            ahead, behind = places[step - 1], places[step]
            out = out + as_items(self.up(ahead, behind, top, ("any",)) if is_up else self.down(ahead, behind, top))
        return out

    def _marched(self, relation, ends, many, is_up):
        """The items of a walk of so many steps along a relation, from the one end to the other one."""
        ahead, lap, times, behind = march(relation, ends[0], ends[1], many)
        laps = [(self._along(lap, is_up), times)] if times > 0 else []
        return self._along(ahead, is_up) + laps + self._along(behind, is_up)

    def rise(self, place, low, goal, high, roof):
        """The items of a going by climbs from the stand (place, low) up to the stand (goal, high) (there is one)."""
        top = self._shaft.lid_top()
        level = max(low, min(high, roof - top))
        climbing, steep = self._shaft.climb_relation(top), []
        masks = [orbit_at(orbit_of(climbing, 1 << place), level - low)]
        for number in range(level + 1, high + 1):
            masks.append(image(self._shaft.climb_relation(roof - number), masks[-1]))
        for number in range(high, level, -1):
            ahead = place_ahead(self._shaft.climb_relation(roof - number), masks[number - level - 1], goal)
            steep = as_items(self.up(ahead, goal, roof - number, ("any",))) + steep
            goal = ahead
        return self._marched(climbing, (place, goal), level - low, True) + steep

    def fall(self, place, high, goal, low, roof):
        """The items of a going by drops from the stand (place, high) down to the stand (goal, low) (there is one)."""
        top = self._shaft.lid_top()
        level = min(high, max(low, roof - top))
        dropping, steep = self._shaft.drop_relation(top), []
        masks = [1 << place]
        for number in range(high, level, -1):
            masks.append(image(self._shaft.drop_relation(roof - number), masks[-1]))
        left = orbit_at(orbit_of(led_back(dropping), 1 << goal), level - low)
        middle = ones(masks[-1] & left)[0]
        gentle = self._marched(dropping, (middle, goal), level - low, False)
        for number in range(level + 1, high + 1):
            ahead = place_ahead(self._shaft.drop_relation(roof - number), masks[high - number], middle)
            steep = as_items(self.down(ahead, middle, roof - number)) + steep
            middle = ahead
        return steep + gentle

    def _steps_at_zero(self, place, roof):
        """What leads under the roof in one step at 0 from the place: tuples (goal, deeds)."""
        out = [(goal, self._back(place, goal)) for goal in ones(self._shaft.lid(roof)[place])]
        for position, (begin, change, middle, when) in enumerate(self._house.deeds()):
            if begin == place and when == "empty" and change == 0:
                out.append((middle, [position]))
            if begin == place and when == "empty" and change == 1 and roof > 0:
                for goal in ones(image(self._shaft.downs, self._shaft.lid(roof - 1)[middle])):
                    out.append((goal, [position] + self.down(middle, goal, roof - 1)))
        return out

    def ways_at_zero(self, zeros, roof):
        """For each place at 0 to which the mask's places lead under the roof: the first place, and the items."""
        out = {place: (place, []) for place in ones(zeros)}
        row = ones(zeros)
        at = 0
        while at < len(row):
            first, items = out[row[at]]
            for goal, deeds in self._steps_at_zero(row[at], roof):
                if goal not in out:
                    out[goal] = (first, items + as_items(deeds))
                    row.append(goal)
            at += 1
        return out


def place_ahead(relation, mask, goal):
    """A place of the mask from which the relation leads to the goal (there is one)."""
    return [place for place in ones(mask) if (relation[place] >> goal) & 1 == 1][0]


def is_led(shaft, mask, low, goal, high, roof):
    """Whether climbs under the roof lead from one of the mask's places at the number low to the stand (goal, high)."""
    return (shaft.risen(mask, low, high, roof) >> goal) & 1 == 1


def plain_stairs(stairs, shaft, stands, roof):
    """The items of a plain going under the roof from stand to stand; None without one."""
    (place, start), (goal, end) = stands
    if start <= end:
        for middle in ones(shaft.band(start, roof - start)[place]):
            if is_led(shaft, 1 << middle, start, goal, end, roof):
                first = stairs.band_items(place, middle, start, roof - start)
                return first + stairs.rise(middle, start, goal, end, roof)
        return None
    band = shaft.band(end, roof - end)
    for middle in ones(shaft.fallen(1 << place, start, end, roof)):
        if (band[middle] >> goal) & 1 == 1:
            return stairs.fall(place, start, middle, end, roof) + stairs.band_items(middle, goal, end, roof - end)
    return None


def rise_from_zero(stairs, shaft, place, goal, end, roof):
    """The items of a going from the place at 0 up to the stand (goal, end), above 0 behind its first deed, or None."""
    if end == 0:
        return [] if place == goal else None
    for middle in ones(shaft.begun(1 << place, roof)):
        if is_led(shaft, 1 << middle, 1, goal, end, roof):
            first = as_items(stairs.up(place, middle, roof - 1, ("any", "empty")))
            return first + stairs.rise(middle, 1, goal, end, roof)
    return None


def stairs_by_zero(stairs, shaft, stands, roof):
    """The items of a going under the roof from stand to stand that stands at 0 somewhere (there is one)."""
    (place, start), (goal, end) = stands
    ways = stairs.ways_at_zero(shaft.zeros(1 << place, start, roof), roof)
    for last in ways:
        rise = rise_from_zero(stairs, shaft, last, goal, end, roof)
        if rise is not None:
            first, items = ways[last]
            return stairs.fall(place, start, first, 0, roof) + items + rise
    return None


def going_under(house, shaft, stands, roof):
    """A going under the roof from stand to stand (there is one)."""
    stairs = Stairs(house, shaft)
    going = plain_stairs(stairs, shaft, stands, roof)
    return stairs_by_zero(stairs, shaft, stands, roof) if going is None else going

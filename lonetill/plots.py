"""Plain goings of a gain, told in laps."""

from lonetill.marches import march
from lonetill.masks import ones
from lonetill.orbits import orbit_at
from lonetill.searches import deeds_to, plain_ways, searched

# A returned list has fewer elements than twice these.
MOST_DEEDS = 2000


def as_items(deeds):
    """The deeds as items of a going: none, one, or laps that are done once, none of them too long."""
    if len(deeds) < 2:
        return deeds
    return [(deeds[at:at + MOST_DEEDS], 1) for at in range(0, len(deeds), MOST_DEEDS)]


def level_deeds(house, place, goal, need):
    """The deeds of a plain going of gain 0 and of at most this need (there is one)."""
    top = need + house.places * house.places
    return deeds_to(searched(plain_ways(house), (place, need), top), (goal, need))


class Rises:
    """What climbs and drops are made of, in deeds; what was once found is kept."""

    def __init__(self, house, plains):
        self._house = house
        self._plains = plains
        self._ways = plain_ways(house)
        self._found = {}

    def _level(self, place, goal):
        """The deeds of a going of gain 0 and of need 0; None if there is none."""
        if place not in self._found:
            top = self._house.places * self._house.places
            self._found[place] = searched(self._ways, (place, 0), top)
        return deeds_to(self._found[place], (goal, 0))

    def climb(self, place, goal):
        """The deeds of a climb: a deed up, and what never falls below it."""
        for position, change, middle in self._ways[place]:
            if change == 1 and self._level(middle, goal) is not None:
                return [position] + self._level(middle, goal)
        return None

    def drop(self, place, goal):
        """The deeds of a drop: what never falls, and a deed down."""
        for middle in ones(self._plains.grades[0][place]):
            for position, change, behind in self._ways[middle]:
                if change == -1 and behind == goal:
                    return self._level(place, middle) + [position]
        return None

    def items_along(self, places, is_up):
        """The items of a going along these places by climbs, or by drops."""
        out = []
        for step in range(1, len(places)):
            ahead, behind = places[step - 1], places[step]
            out = out + as_items(self.climb(ahead, behind) if is_up else self.drop(ahead, behind))
        return out


def marched(rises, relation, place, goal, many, is_up):
    """The items of a going of so many climbs, or drops, from the place to the goal."""
    ahead, lap, times, behind = march(relation, place, goal, many)
    laps = [(rises.items_along(lap, is_up), times)] if times > 0 else []
    return rises.items_along(ahead, is_up) + laps + rises.items_along(behind, is_up)


def plot(house, plains, place, goal, gain):
    """A plain going of this gain (there is one), of the least need."""
    rises, extra = Rises(house, plains), plains.extra(place, goal, gain)
    if gain < 0:
        for middle in ones(orbit_at(plains.drops_from(place), 0 - gain)):
            if plains.needs[middle][goal] == extra:
                down = marched(rises, plains.dropping, place, middle, 0 - gain, False)
                return down + as_items(level_deeds(house, middle, goal, extra))
    for middle in ones(orbit_at(plains.climbs_to(goal), gain)):
        if plains.needs[place][middle] == extra:
            up = marched(rises, plains.climbing, middle, goal, gain, True)
            return as_items(level_deeds(house, place, middle, extra)) + up
    return None

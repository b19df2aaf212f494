"""What the plain goings of a house lead to, whatever the numbers are."""

from lonetill.grades import deed_relation, grades_of
from lonetill.lines import Line
from lonetill.masks import ones
from lonetill.orbits import line_of_flags, orbit_at, orbit_of
from lonetill.relations import followed, led_back


def needs_of(grades):
    """For each two places the position of the first level that has them; None without one."""
    many = len(grades[0])
    out = [[None] * many for _ in range(many)]
    for need in range(len(grades) - 1, -1, -1):
        for place, mask in enumerate(grades[need]):
            for goal in ones(mask):
                out[place][goal] = need
    return out


def least_known(values):
    """The least of the values that are not None; None without any."""
    return min([value for value in values if value is not None], default=None)


class Plains:
    """The relations of the plain deeds of a house, and what comes of them.

    Going up is looked at from the goal, going down from the place, as points 24 and 25 tell it.
    What was once followed is kept.
    """

    def __init__(self, house):
        self.ups = deed_relation(house, 1, "any")
        self.flats = deed_relation(house, 0, "any")
        self.downs = deed_relation(house, -1, "any")
        self.grades = grades_of(self.ups, self.flats, self.downs)
        self.needs = needs_of(self.grades)
        self.climbing = followed(self.ups, self.grades[0])
        self.dropping = followed(self.grades[0], self.downs)
        self._climbs_back = led_back(self.climbing)
        self._orbits_to = {}
        self._orbits_from = {}

    def climbs_to(self, goal):
        """The orbit of the places from which 0, 1, .. climbs lead to the goal."""
        if goal not in self._orbits_to:
            self._orbits_to[goal] = orbit_of(self._climbs_back, 1 << goal)
        return self._orbits_to[goal]

    def drops_from(self, place):
        """The orbit of the places to which 0, 1, .. drops lead from the place."""
        if place not in self._orbits_from:
            self._orbits_from[place] = orbit_of(self.dropping, 1 << place)
        return self._orbits_from[place]

    def need_among(self, place, goals):
        """The least need of a going of gain 0 from the place to one of the mask's places, or None."""
        return least_known([self.needs[place][goal] for goal in ones(goals)])

    def need_from(self, places, goal):
        """The least need of a going of gain 0 from one of the mask's places to the goal, or None."""
        return least_known([self.needs[place][goal] for place in ones(places)])

    def extra(self, place, goal, gain):
        """The extra of the gain, None if no plain going has it."""
        if gain < 0:
            return self.need_from(orbit_at(self.drops_from(place), 0 - gain), goal)
        return self.need_among(place, orbit_at(self.climbs_to(goal), gain))

    def least_start(self, place, goal, gain):
        """The least need of the plain goings of this gain, None if there are none."""
        extra = self.extra(place, goal, gain)
        return None if extra is None else extra + max(0, 0 - gain)

    def leads(self, place, start, goal, end):
        """Whether a plain going leads from the stand (place, start) to the stand (goal, end)."""
        need = self.least_start(place, goal, end - start)
        return need is not None and need <= start

    def extras(self, place, goal):
        """The list of the tuples (extra, Line of the gains that have it), rising."""
        above, above_back = self.climbs_to(goal)
        below, below_back = self.drops_from(place)
        rising = [self.need_among(place, goals) for goals in above]
        falling = [self.need_from(places, goal) for places in below]
        out = []
        for extra in sorted(set([need for need in rising + falling if need is not None])):
            up = line_of_flags([need == extra for need in rising], above_back)
            down = line_of_flags([need == extra for need in falling], below_back)
            out.append((extra, up | down.mirrored()))
        return out

    def gains(self, place, goal, many):
        """The Line of all gains whose least start is at most many."""
        line = Line()
        for extra, those in self.extras(place, goal):
            if extra <= many:
                line = line | those.part(extra - many, None)
        return line

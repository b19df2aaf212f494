"""What goings lead to when "empty" deeds are among them: all of these go through number 0."""

from lonetill.grades import deed_relation
from lonetill.lines import Line
from lonetill.orbits import line_of_meetings, orbit_at
from lonetill.plains import Plains
from lonetill.relations import closed, followed, image, joined, led_back


class Tills:
    """The places of a house at number 0, and how goings come to them and leave them.

    A mask holds places at 0. Behind an "empty" deed with change 1 the number is 1: a going that
    comes to 0 once more hops from place to place at 0, any other one never falls below this 1.
    """

    def __init__(self, house):
        self.plains = Plains(house)
        self.ground = self.plains.grades[0]
        self.lasting = deed_relation(house, 0, "empty")
        self.lifting = deed_relation(house, 1, "empty")
        self._hops = followed(followed(self.lifting, self.plains.dropping), self.ground)
        self.turns = closed(joined(joined(self.ground, self.lasting), self._hops))
        self._ground_back = led_back(self.ground)
        self._lifting_back = led_back(self.lifting)
        self._turns_back = led_back(self.turns)

    def falls_to(self, place, start):
        """The places at 0 to which plain goings lead from the stand (place, start)."""
        return image(self.ground, orbit_at(self.plains.drops_from(place), start))

    def zeros_from(self, place, start):
        """The places at 0 to which the stand (place, start) leads."""
        return image(self.turns, self.falls_to(place, start))

    def rises_to(self, goal, end):
        """The places at 0 from which plain goings, or such behind one deed up, lead to the stand (goal, end).

        What is behind a deed up is looked at above 0 alone: what comes to 0 again, turns tell.
        """
        climbs = self.plains.climbs_to(goal)
        found = image(self._ground_back, orbit_at(climbs, end))
        if end > 0:
            lifted = image(self._ground_back, orbit_at(climbs, end - 1))
            found = found | image(self._lifting_back, lifted)
        return found

    def zeros_to(self, goal, end):
        """The places at 0 that lead to the stand (goal, end)."""
        return image(self._turns_back, self.rises_to(goal, end))

    def leads(self, place, start, goal, end):
        """Whether the stand (place, start) leads to the stand (goal, end)."""
        if self.plains.leads(place, start, goal, end):
            return True
        return self.falls_to(place, start) & self.zeros_to(goal, end) != 0

    def ends_of_zeros(self, zeros, goal):
        """The Line of all ends at the goal of the mask's places at 0 (with all that they lead to at 0)."""
        line = line_of_meetings(self.plains.climbs_to(goal), image(self.ground, zeros))
        return line | self.ends_above(image(self.lifting, zeros), goal)

    def ends_above(self, lifted, goal):
        """The Line of all ends at the goal of the mask's places at 1 by what never falls below 1."""
        return line_of_meetings(self.plains.climbs_to(goal), image(self.ground, lifted)).shifted(1)

    def starts_of_zeros(self, zeros, place):
        """The Line of all numbers at the place from which plain goings lead to the mask's places at 0."""
        return line_of_meetings(self.plains.drops_from(place), image(self._ground_back, zeros))

    def ends(self, place, start, goal):
        """The Line of the ends of the stand (place, start) at the goal."""
        plain = self.plains.gains(place, goal, start).shifted(start)
        return plain | self.ends_of_zeros(self.zeros_from(place, start), goal)

    def starts(self, place, goal, end):
        """The Line of the starts of the stand (goal, end) at the place."""
        line = self.starts_of_zeros(self.zeros_to(goal, end), place)
        for extra, those in self.plains.extras(place, goal):
            if extra <= end:
                line = line | those.part(None, end - extra).mirrored().shifted(end)
        return line

    def ends_behind(self, place, goal):
        """The Line of the ends at the goal of the place at 0 where an "empty" deed is done first."""
        zeros = image(self.turns, self.lasting[place] | self._hops[place])
        return self.ends_of_zeros(zeros, goal) | self.ends_above(self.lifting[place], goal)

    def least_need(self, place, goal):
        """The least number at the place from which a plain going leads to the goal; None without one."""
        needs = []
        for extra, those in self.plains.extras(place, goal):
            below = those.last_to(0)
            needs.append(extra if those.next_from(0) is not None else extra - below)
        return min(needs, default=None)

    def zeros_coming_to(self, goal):
        """The places at 0 that lead to the goal with some number."""
        near = 0
        for place in range(len(self.ground)):
            if self.least_need(place, goal) == 0:
                near = near | (1 << place)
        return image(self._turns_back, near | image(self._lifting_back, near))

    def come_to(self, place, goal):
        """The Line of the starts at the place from which the goal is come to with some number."""
        line = self.starts_of_zeros(self.zeros_coming_to(goal), place)
        need = self.least_need(place, goal)
        return line if need is None else line | Line([(need, None, 1, [0])])

"""Cheapest goings from stand to stand, told in laps."""

from lonetill.cheap_ways import cheapest_walk, deeds_back, priced_ways, put_at, settled
from lonetill.costs import Costs
from lonetill.minplus import column_ahead, column_far_ahead, only_at, row_far_behind, turned_over
from lonetill.plots import as_items


def place_of_least(row, column):
    """The place at which the sum of a row's and a column's worth is the least (there is one)."""
    return min([(worth + column[place], place) for place, worth in row.items() if place in column])[1]


class Routes:
    """The cheapest goings of a house with prices; what was once settled is kept."""

    def __init__(self, house, prices):
        self._deeds = house.deeds()
        self._prices = list(prices)
        self._many = house.places
        self._costs = Costs(house, prices)
        self._ways = priced_ways(house, prices)
        self._settled = {}

    def _back(self, place, goal, number):
        """The deeds of a cheapest plain going from this number at the place to the same one at the goal."""
        key = (place, min(number, self._many * self._many))
        if key not in self._settled:
            self._settled[key] = settled(self._ways, place, number)
        return deeds_back(self._settled[key], (goal, 0))

    def _first_deed(self, place, change, kinds, worths):
        """The position of the deed of this place whose price, and the worth at its goal, come to least."""
        found = [(self._prices[position] + worths[deed[2]], position) for position, deed in enumerate(self._deeds)
                 if deed[0] == place and deed[1] == change and deed[3] in kinds and deed[2] in worths]
        return min(found)[1]

    def _up(self, place, goal, kinds):
        """The deeds of a cheapest deed up of one of the kinds, and what never falls below it."""
        position = self._first_deed(place, 1, kinds, turned_over(self._costs.level(0))[goal])
        return [position] + self._back(self._deeds[position][2], goal, 0)

    def _climb(self, place, goal):
        """The deeds of a cheapest climb."""
        return self._up(place, goal, ("any",))

    def _drop(self, place, goal):
        """The deeds of a cheapest drop."""
        ground = self._costs.level(0)[place]
        found = [(ground[deed[0]] + self._prices[position], position) for position, deed in enumerate(self._deeds)
                 if deed[2] == goal and deed[1] == -1 and deed[0] in ground]
        position = min(found)[1]
        return self._back(place, self._deeds[position][0], 0) + [position]

    def _items_along(self, places, is_up):
        """The items of climbs, or drops, along the places."""
        out = []
        for step in range(1, len(places)):
            ahead, behind = places[step - 1], places[step]
            out = out + as_items(self._climb(ahead, behind) if is_up else self._drop(ahead, behind))
        return out

    def _walk(self, place, goal, steps, is_up):
        """The items of a cheapest walk of so many climbs, or drops."""
        matrix = self._costs.climbing if is_up else self._costs.dropping
        ahead, lap, times, behind = cheapest_walk(matrix, place, goal, steps)
        laps = [(self._items_along(lap, is_up), times)] if times > 0 else []
        return self._items_along(ahead, is_up) + laps + self._items_along(behind, is_up)

    def _plain(self, place, start, goal, end):
        """The items of a cheapest plain going (there is one)."""
        if end >= start:
            behind = column_far_ahead(self._costs.climbing, only_at(goal), end - start)
            middle = place_of_least(self._costs.level(start)[place], behind)
            return as_items(self._back(place, middle, start)) + self._walk(middle, goal, end - start, True)
        ahead = row_far_behind(only_at(place), self._costs.dropping, start - end)
        middle = place_of_least(ahead, turned_over(self._costs.level(end))[goal])
        return self._walk(place, middle, start - end, False) + as_items(self._back(middle, goal, end))

    def _step_at_zero(self, place, goal):
        """The tuple (price, deeds) of a cheapest single step at 0 from the place to the goal; None without one."""
        found = []
        if goal in self._costs.level(0)[place]:
            found.append((self._costs.level(0)[place][goal], self._back(place, goal, 0)))
        for position, (begin, change, behind, when) in enumerate(self._deeds):
            if begin == place and when == "empty" and change == 0 and behind == goal:
                found.append((self._prices[position], [position]))
            if begin == place and when == "empty" and change == 1 and goal in self._costs.dropping[behind]:
                down = self._costs.dropping[behind][goal]
                found.append((self._prices[position] + down, [position] + self._drop(behind, goal)))
        return min(found) if len(found) > 0 else None

    def _way_at_zero(self, place, goal):
        """The places of a cheapest way by steps at 0 from the place to the goal (there is one)."""
        queue = {0: [[place]]}
        seen = {}
        while goal not in seen:
            price = min(queue)
            row = queue.pop(price)
            for way in row:
                if way[-1] not in seen:
                    seen[way[-1]] = way
                    for middle in range(self._many):
                        step = self._step_at_zero(way[-1], middle)
                        if step is not None:
                            put_at(queue, price + step[0], way + [middle])
        return seen[goal]

    def _at_zero(self, place, goal):
        """The items of a cheapest way from the place at 0 to the goal at 0 (there is one)."""
        way = self._way_at_zero(place, goal)
        out = []
        for step in range(1, len(way)):
            out = out + as_items(self._step_at_zero(way[step - 1], way[step])[1])
        return out

    def _rise(self, place, goal, end):
        """The items of a cheapest going from the place at 0 to the stand (goal, end), above 0 behind its first deed."""
        if end == 0:
            return []
        behind = column_far_ahead(self._costs.climbing, only_at(goal), end - 1)
        middle = place_of_least(self._costs.lifting[place], behind)
        return as_items(self._up(place, middle, ("any", "empty"))) + self._walk(middle, goal, end - 1, True)

    def _through_zero(self, place, start, goal, end):
        """The items of a cheapest going that stands at 0 somewhere (there is one)."""
        fallen, rising = self._costs.plain_row(place, start, 0), self._costs.bare_rise_column(goal, end)
        first = place_of_least(fallen, column_ahead(self._costs.turning, rising))
        last = place_of_least(self._costs.turning[first], rising)
        return self._plain(place, start, first, 0) + self._at_zero(first, last) + self._rise(last, goal, end)

    def going(self, place, start, goal, end):
        """A cheapest going from the stand (place, start) to the stand (goal, end); None if there is none."""
        price = self._costs.least_price(place, start, goal, end)
        if price is None:
            return None
        if self._costs.plain_row(place, start, end).get(goal) == price:
            return self._plain(place, start, goal, end)
        return self._through_zero(place, start, goal, end)

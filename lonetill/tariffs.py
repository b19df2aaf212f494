"""Prices of a house, and Leasts of the least prices from a stand, or to one."""

from lonetill.basics import is_count, is_list
from lonetill.costs import Costs
from lonetill.errors import InvalidPrices, TooMany
from lonetill.families import Least
from lonetill.laps import Walks
from lonetill.minplus import column_ahead, only_at, row_behind, turned_over
from lonetill.series import least_worth, shortened, with_singles

MOST_PRICE = 1000
MOST_PLACES = 6


def are_prices(house, value):
    """Whether any value is prices of the house."""
    if not is_list(value) or len(value) != len(house):
        return False
    return all([is_count(price) and price <= MOST_PRICE for price in value])


def check_prices(house, prices):
    """InvalidPrices unless they are prices of the house."""
    if not are_prices(house, prices):
        raise InvalidPrices(prices)


def check_few(house):
    """TooMany if the house has more places than prices are told for."""
    if house.places > MOST_PLACES:
        raise TooMany("places", MOST_PLACES)


def mirrored_part(families, top, low):
    """What families tell for each number of steps down from the top, as far as the number low, as families."""
    out = []
    for first, step, price, more, many in families:
        if top - first >= low:
            times = (top - first - low) // step + 1
            times = times if many is None else min(times, many)
            last = first + (times - 1) * step
            out.append((top - last, step, price + (times - 1) * more, 0 - more, times))
    return out


def worths_at(told, number):
    """The row of the least worths that the families of all places tell at a number."""
    worths = [(place, least_worth(families, number)) for place, families in enumerate(told)]
    return {place: worth for place, worth in worths if worth is not None}


def told_behind(told, matrix):
    """For each place the families of what is told of all places, and a step of the matrix behind it."""
    out = [[] for _ in told]
    for place, families in enumerate(told):
        for goal, more in matrix[place].items():
            out[goal].extend([(first, step, price + more, slope, many) for first, step, price, slope, many in families])
    return [shortened(families) for families in out]


class Slope:
    """Walks from a place and a number down along a matrix, with a step of the level of their last number behind.

    From a stand along drops these are all plain goings to lesser numbers; along climbs that are led back,
    with levels led back, all plain goings that come to a stand from lesser numbers.
    """

    def __init__(self, matrix, levels, place, number):
        self._levels = levels
        self._number = number
        # Numbers so near to 0 are looked at one by one: above them all levels are alike.
        self._near = min(number, max(1, len(levels) - 1))
        self._told = [[] for _ in matrix]
        row = only_at(place)
        if number > self._near:
            walks = Walks(matrix, None)
            walks.set_out(0, row)
            self._told = walks.told()
            row = worths_at(self._told, number - self._near)
        self._rows = rows_down(row, matrix, self._near)

    def row_at(self, number):
        """The row of worths behind the walks down to a number near 0, without the level."""
        return self._rows[number]

    def lower_families(self):
        """For each place the families of the prices at all numbers below the first one."""
        levels = self._levels
        out = [mirrored_part(families, self._number, self._near) for families in told_behind(self._told, levels[-1])]
        for number in range(self._near):
            row = row_behind(self._rows[number], levels[number])
            for place, price in row.items():
                out[place].append((number, 1, price, 0, 1))
        return out


def rows_down(row, matrix, many):
    """The rows of worths behind so many steps of the matrix, one less, .., none."""
    out = [row]
    for _ in range(many):
        out.append(row_behind(out[-1], matrix))
    return out[::-1]


def least_of_both_told(rising, falling):
    """For each place the Least of what two lots of families tell."""
    out = {}
    for place, families in enumerate(rising):
        singles = [family for family in falling[place] if family[4] == 1]
        others = [family for family in falling[place] if family[4] != 1]
        out[place] = Least(with_singles(families, singles) + others)
    return out


def prices_from(house, prices, place, start):
    """The dict from all places to the Leasts of the least prices from the stand (place, start)."""
    costs = Costs(house, prices)
    down = Slope(costs.dropping, costs.levels, place, start)
    fallen = row_behind(down.row_at(0), costs.turning)
    walks = Walks(costs.climbing, None)
    walks.set_out(1, row_behind(fallen, costs.lifting))
    if start > 0:
        walks.set_out(start, costs.level(start)[place])
    at_zero = [[(0, 1, fallen[goal], 0, 1)] if goal in fallen else [] for goal in range(house.places)]
    rising = [families + first for families, first in zip(walks.told(), at_zero)]
    return least_of_both_told(rising, down.lower_families())


def prices_to(house, prices, goal, end):
    """The dict from all places to the Leasts of the least prices to the stand (goal, end)."""
    costs = Costs(house, prices)
    up = Slope(turned_over(costs.climbing), [turned_over(level) for level in costs.levels], goal, end)
    rising = column_ahead(costs.lifting, up.row_at(1)) if end > 0 else only_at(goal)
    walks = Walks(turned_over(costs.dropping), None)
    walks.set_out(0, column_ahead(costs.turning, rising))
    if end > 0:
        walks.set_out(end, turned_over(costs.level(end))[goal])
    return least_of_both_told(walks.told(), up.lower_families())

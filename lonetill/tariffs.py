"""Prices of a house, and Leasts of the least prices from a stand, or to one."""

from lonetill.basics import is_count, is_list
from lonetill.costs import Costs
from lonetill.errors import InvalidPrices, TooMany
from lonetill.families import Least
from lonetill.laps import Walks
from lonetill.minplus import column_ahead, columns_of, least_sum, only_at, row_behind, row_far_behind
from lonetill.series import least_worth, moved_families, needed, singles_beside

MOST_PRICE = 1000
MOST_PLACES = 6


def are_prices(house, value):
    """Whether any value is prices of the house."""
    if not is_list(value) or len(value) != len(house):
        return False
    return all([is_count(price) and price <= MOST_PRICE for price in value])


def check_prices(house, prices):
    """InvalidPrices unless they are prices of the house."""
    if not are_prices(house, prices):
        raise InvalidPrices(prices)


def check_few(house):
    """TooMany if the house has more places than prices are told for."""
    if house.places > MOST_PLACES:
        raise TooMany("places", MOST_PLACES)


def mirrored_part(families, top, low):
    """What families tell for each number of steps down from the top, as far as the number low, as families."""
    out = []
    for first, step, price, more, many in families:
        if top - first >= low:
            times = (top - first - low) // step + 1
            times = times if many is None else min(times, many)
            last = first + (times - 1) * step
            out.append((top - last, step, price + (times - 1) * more, 0 - more, times))
    return out


def least_of_families(families):
    """The Least of the families, without such endless ones and single ones as are needless."""
    out = needed([family for family in families if family[4] is None])
    out = out + [family for family in families if family[4] is not None and family[4] > 1]
    for family in families:
        known = least_worth(out, family[0]) if family[4] == 1 else 0
        if known is None or family[2] < known:
            out.append(family)
    return Least(out)


class FromStand:
    """The least prices from one stand to all others."""

    def __init__(self, house, prices, place, start):
        self.costs = Costs(house, prices)
        self.start = start
        self.begin = only_at(house.places, place)
        self.fallen = self.costs.fall_row(place, start)

    def up(self, goal):
        """Families of the prices of plain goings to numbers from the start on."""
        row = row_behind(self.begin, self.costs.level(self.start))
        walks = Walks(self.costs.climbing, row, only_at(self.costs.many, goal))
        return moved_families(walks.families(), self.start, 0)

    def down(self, goal):
        """Families of the prices of plain goings to numbers up to the start."""
        top = self.costs.top()
        low = min(top, self.start + 1)
        out = []
        row = row_far_behind(self.begin, self.costs.dropping, self.start - low + 1)
        for number in range(low - 1, -1, -1):
            out.append(least_sum(row, [cost[goal] for cost in self.costs.level(number)]))
            row = row_behind(row, self.costs.dropping)
        if self.start < top:
            return singles_beside([], out[::-1])
        column = [cost[goal] for cost in self.costs.level(top)]
        walks = Walks(self.costs.dropping, self.begin, column)
        return singles_beside([], out[::-1]) + mirrored_part(walks.families(), self.start, top)

    def through_zero(self, goal):
        """Families of the prices of goings that stand at 0 somewhere."""
        lifted = row_behind(self.fallen, self.costs.lifting)
        walks = Walks(self.costs.climbing, lifted, only_at(self.costs.many, goal))
        return singles_beside([], [self.fallen[goal]]) + moved_families(walks.families(), 1, 0)

    def least(self, goal):
        """The Least of the prices of all goings to the goal."""
        return least_of_families(self.up(goal) + self.through_zero(goal) + self.down(goal))


class ToStand:
    """The least prices from all stands to one."""

    def __init__(self, house, prices, goal, end):
        self.costs = Costs(house, prices)
        self.goal = goal
        self.end = end
        self.finish = only_at(house.places, goal)
        self.rising = self.costs.rise_column(goal, end)

    def down(self, place):
        """Families of the prices of plain goings from numbers from the end on."""
        column = [cost[self.goal] for cost in self.costs.level(self.end)]
        walks = Walks(self.costs.dropping, only_at(self.costs.many, place), column)
        return moved_families(walks.families(), self.end, 0)

    def up(self, place):
        """Families of the prices of plain goings from numbers up to the end."""
        top = self.costs.top()
        low = min(top, self.end + 1)
        out = []
        back = columns_of(self.costs.climbing)
        column = row_far_behind(self.finish, back, self.end - low + 1)
        for number in range(low - 1, -1, -1):
            out.append(least_sum(self.costs.level(number)[place], column))
            column = row_behind(column, back)
        if self.end < top:
            return singles_beside([], out[::-1])
        walks = Walks(self.costs.climbing, self.costs.level(top)[place], self.finish)
        return singles_beside([], out[::-1]) + mirrored_part(walks.families(), self.end, top)

    def through_zero(self, place):
        """Families of the prices of goings that stand at 0 somewhere."""
        column = column_ahead(self.costs.level(0), self.rising)
        walks = Walks(self.costs.dropping, only_at(self.costs.many, place), column)
        return walks.families()

    def least(self, place):
        """The Least of the prices of all goings from the place."""
        return least_of_families(self.down(place) + self.through_zero(place) + self.up(place))


def prices_from(house, prices, place, start):
    """The dict from all places to the Leasts of the least prices from the stand (place, start)."""
    told = FromStand(house, prices, place, start)
    return {goal: told.least(goal) for goal in range(house.places)}


def prices_to(house, prices, goal, end):
    """The dict from all places to the Leasts of the least prices to the stand (goal, end)."""
    told = ToStand(house, prices, goal, end)
    return {place: told.least(place) for place in range(house.places)}


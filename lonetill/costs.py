"""Least prices of what goings of a house with prices are made of, as points 63 and 65 tell it."""

from lonetill.minplus import any_steps, behind_one, column_ahead, column_far_ahead, least_of_both, lesser, no_ways
from lonetill.minplus import only_at, row_behind, row_far_behind


def deed_prices(house, prices, change, when):
    """The matrix of the prices of the deeds of this change that can be done then ("any" or "empty")."""
    out = no_ways(house.places)
    for deed, price in zip(house.deeds(), prices):
        if deed[1] == change and deed[3] == when:
            out[deed[0]][deed[2]] = price
    return out


def round_over(ups, inner, downs):
    """The least prices of a deed up, something within, and a deed down (or a deed down and one up)."""
    return behind_one(behind_one(ups, inner), downs)


def above_all(ups, flats, downs):
    """The least prices of plain goings that come back to their number and never fall below it."""
    out = any_steps(flats)
    while True:
        more = any_steps(least_of_both(out, round_over(ups, out, downs)))
        if more == out:
            return out
        out = more


class Costs:
    """The least prices of plain goings that come back, of climbs and drops, and of ways at 0.

    The levels tell of those that fall at most 0, 1, .. below their number: all further ones are
    as the last one. The ups from 0 are deeds of either kind.
    """

    def __init__(self, house, prices):
        ups, flats, downs = [deed_prices(house, prices, change, "any") for change in (1, 0, -1)]
        lifts = deed_prices(house, prices, 1, "empty")
        ground = above_all(ups, flats, downs)
        self.many = house.places
        self.levels = [ground]
        while len(self.levels) < 2 or self.levels[-1] != self.levels[-2]:
            self.levels.append(any_steps(least_of_both(ground, round_over(downs, self.levels[-1], ups))))
        self.levels.pop()
        self.climbing = behind_one(ups, ground)
        self.dropping = behind_one(ground, downs)
        lasts = least_of_both(ground, deed_prices(house, prices, 0, "empty"))
        self.turning = any_steps(least_of_both(lasts, behind_one(lifts, self.dropping)))
        self.lifting = behind_one(least_of_both(ups, lifts), ground)

    def level(self, number):
        """The least prices of plain goings that come back to this number."""
        return self.levels[min(number, len(self.levels) - 1)]

    def top(self):
        """The number from which on all levels are alike."""
        return len(self.levels) - 1

    def plain_row(self, place, start, end):
        """The least prices of plain goings from the stand (place, start) to each place with the end."""
        first = only_at(place)
        if end >= start:
            return row_far_behind(row_behind(first, self.level(start)), self.climbing, end - start)
        return row_behind(row_far_behind(first, self.dropping, start - end), self.level(end))

    def fall_row(self, place, start):
        """The least prices of all goings from the stand (place, start) to each place with 0."""
        return row_behind(self.plain_row(place, start, 0), self.turning)

    def rise_row(self, row, end):
        """The least prices of what begins at places with 0, at these prices, and ends at each place with the end."""
        return row if end == 0 else row_far_behind(row_behind(row, self.lifting), self.climbing, end - 1)

    def least_price(self, place, start, goal, end):
        """The least price of all goings from the stand (place, start) to the stand (goal, end), or None."""
        through = self.rise_row(self.fall_row(place, start), end)
        return lesser(self.plain_row(place, start, end).get(goal), through.get(goal))

    def bare_rise_column(self, goal, end):
        """The least prices from each place with 0 to the stand (goal, end), above 0 behind the first deed."""
        column = only_at(goal)
        if end == 0:
            return column
        return column_ahead(self.lifting, column_far_ahead(self.climbing, column, end - 1))

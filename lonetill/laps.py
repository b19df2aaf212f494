"""What walks cost, for all lengths at once: a short walk, and a lap at one of its places as often as is wished."""

from lonetill.minplus import behind_one, column_ahead, least_sum, row_behind
from lonetill.series import needed, singles_beside


def rows_behind(row, matrix, many):
    """The row of worths behind 0, 1, .. up to so many steps of the matrix."""
    out = [row]
    for _ in range(many):
        out.append(row_behind(out[-1], matrix))
    return out


def columns_ahead(matrix, column, many):
    """The column of worths ahead of which stand 0, 1, .. up to so many steps of the matrix."""
    out = [column]
    for _ in range(many):
        out.append(column_ahead(matrix, out[-1]))
    return out


def lap_prices(matrix):
    """For each number of steps from 1 to that of the places, at its position less 1, what a lap at each place costs."""
    out = []
    power = matrix
    for _ in range(len(matrix)):
        out.append([power[place][place] for place in range(len(matrix))])
        power = behind_one(power, matrix)
    return out


def longest_walk(places):
    """So many steps at most has a walk that is told with a lap."""
    return 2 * places * places + places


def prices_by_way(ahead, behind, place):
    """For each number of steps what the cheapest walk of so many costs that comes by the place; None without one."""
    left, right = [row[place] for row in ahead], [column[place] for column in behind]
    return [least_sum(left[:steps + 1], right[steps::-1]) for steps in range(len(left))]


def families_of_lap(prices, size, lap):
    """The families of walks of these prices, by their steps, with laps of this size and price; none needless."""
    out = []
    least = [None] * size
    for steps, price in enumerate(prices):
        known = least[steps % size]
        known = None if known is None else known + lap
        if price is not None and (known is None or price < known):
            out.append((steps, size, price, lap, None))
            known = price
        least[steps % size] = known
    return out


class Walks:
    """The walks along a matrix of prices that begin with a row of worths and end with a column of worths."""

    def __init__(self, matrix, row, column):
        most = longest_walk(len(matrix))
        self.matrix = matrix
        self.ahead = rows_behind(row, matrix, most)
        self.behind = columns_ahead(matrix, column, most)
        self.laps = lap_prices(matrix)

    def lap_families(self):
        """The families of the walks with laps, for each place and each size of a lap."""
        out = []
        for place in range(len(self.matrix)):
            prices = prices_by_way(self.ahead, self.behind, place)
            for size in range(1, len(self.matrix) + 1):
                lap = self.laps[size - 1][place]
                if lap is not None:
                    out.extend(families_of_lap(prices, size, lap))
        return needed(out)

    def short_prices(self):
        """The least price of the walks of 0, 1, .. steps, as far as a walk with a lap may go."""
        return [least_sum(row, self.behind[0]) for row in self.ahead]

    def families(self):
        """Families that tell the least price of the walks for each number of steps from 0 on."""
        endless = self.lap_families()
        return endless + singles_beside(endless, self.short_prices())

"""What walks along a matrix of prices cost, for all lengths at once, told by families."""

from math import gcd

from lonetill.minplus import behind_one
from lonetill.series import is_told

NO_LAP = (0, 0)


def is_better(lap, other):
    """Whether a lap, a tuple (steps, price), costs less for each step than the other one, or that one is none."""
    return other[0] == 0 or lap[1] * other[0] < other[1] * lap[0]


def best_laps(matrix):
    """For each place the lap of the least price for each step; NO_LAP without one."""
    out = [NO_LAP] * len(matrix)
    power = matrix
    for steps in range(1, len(matrix) + 1):
        for place, row in enumerate(power):
            if place in row and is_better((steps, row[place]), out[place]):
                out[place] = (steps, row[place])
        if steps < len(matrix):
            power = behind_one(power, matrix)
    return out


class Walks:
    """Walks along a matrix of prices, from places and numbers on; each step makes the number one more.

    A walk that comes by a place with a lap is told with this lap as often as is wished, by the best
    one that it comes by (point 64). One of which another one tells all, at no greater price, is
    not followed any more; neither is one that costs more than most, where it is an INTEGER.
    """

    def __init__(self, matrix, most):
        self._matrix = matrix
        self._laps = best_laps(matrix)
        self._most = most
        self._due = {}
        self._last = {}
        self._told = [[] for _ in matrix]

    def set_out(self, number, row):
        """Lets walks set out at this number, at the prices of the row."""
        for place, price in row.items():
            self._arrive(number, place, NO_LAP, price)

    def _arrive(self, number, place, lap, price):
        """Notes a walk that comes to the place, by whose lap it may go on."""
        own = self._laps[place]
        if own[0] == 0 or not is_better(own, lap):
            self._note(number, place, lap, price)
            return
        # So many laps of the kind that it came with can't be changed for better ones.
        for times in range(1 if lap[0] == 0 else own[0] // gcd(own[0], lap[0])):
            self._note(number + times * lap[0], place, own, price + times * lap[1])

    def _note(self, number, place, lap, price):
        """Notes what is due at this number."""
        if self._most is not None and price > self._most:
            return
        if number not in self._due:
            self._due[number] = {}
        row, key = self._due[number], (place, lap)
        if key not in row or price < row[key]:
            row[key] = price

    def _is_new(self, number, place, lap, price):
        """Whether nothing that is told at the place tells all of this at no greater price."""
        if lap[0] > 0:
            key = (place, lap, number % lap[0])
            if key in self._last:
                first, worth = self._last[key]
                if worth + (number - first) // lap[0] * lap[1] <= price:
                    return False
        return not is_told(self._told[place], number, lap, price)

    def _tell(self, number, place, lap, price):
        """Tells the walk, and goes on with it by one step."""
        if lap[0] == 0:
            self._told[place].append((number, 1, price, 0, 1))
        else:
            self._last[(place, lap, number % lap[0])] = (number, price)
            self._told[place].append((number, lap[0], price, lap[1], None))
        for goal, more in self._matrix[place].items():
            self._arrive(number + 1, goal, lap, price + more)

    def told(self):
        """For each place the families of all walks to it, by their numbers."""
        while len(self._due) > 0:
            number = min(self._due)
            due = self._due.pop(number)
            for (place, lap), price in due.items():
                if self._is_new(number, place, lap, price):
                    self._tell(number, place, lap, price)
        return self._told

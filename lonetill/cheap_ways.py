"""Cheapest short goings that come back to their number, and cheapest walks along a matrix of prices."""

from heapq import heappop, heappush

from lonetill.laps import columns_ahead, lap_prices, longest_walk, prices_by_way, rows_behind
from lonetill.minplus import only_at


def priced_ways(house, prices):
    """For each place the list of its plain deeds: tuples (position, change, goal, price)."""
    out = [[] for _ in range(house.places)]
    for position, deed in enumerate(house.deeds()):
        if deed[3] == "any":
            out[deed[0]].append((position, deed[1], deed[2], prices[position]))
    return out


def settled(ways, place, deep):
    """For each stand, seen from the place's number, the stand ahead of it on a cheapest way and the deed.

    The way falls at most so deep; more than the places times themselves, up or down, it never needs (point 63).
    """
    top = len(ways) * len(ways)
    low = 0 - min(deep, top)
    came = {}
    queue = [(0, place, 0, None, None)]
    seen = {}
    while len(queue) > 0:
        price, middle, number, ahead, deed = heappop(queue)
        if (middle, number) in seen:
            continue
        seen[(middle, number)] = True
        came[(middle, number)] = (ahead, deed)
        for position, change, goal, cost in ways[middle]:
            if low <= number + change <= top and (goal, number + change) not in seen:
                heappush(queue, (price + cost, goal, number + change, (middle, number), position))
    return came


def deeds_back(came, stand):
    """The positions of the deeds that lead to the stand."""
    out = []
    while came[stand][0] is not None:
        stand, position = came[stand]
        out.append(position)
    return out[::-1]


def places_along(matrix, place, goal, steps):
    """The places of a cheapest walk of so many steps from the place to the goal (there is one)."""
    rows = rows_behind(only_at(len(matrix), place), matrix, steps)
    out = [goal]
    for step in range(steps, 0, -1):
        goal = place_ahead(rows[step - 1], matrix, goal, rows[step][goal])
        out.append(goal)
    return out[::-1]


def place_ahead(row, matrix, goal, price):
    """The place whose worth in the row, and a step to the goal, come to this price."""
    for place, worth in enumerate(row):
        if worth is not None and matrix[place][goal] is not None and worth + matrix[place][goal] == price:
            return place
    return None


def best_lap(matrix, place, goal, steps):
    """The tuple (price, middle, size of the lap, steps beside the laps) of a cheapest walk of so many steps."""
    most, many = longest_walk(len(matrix)), len(matrix)
    ahead = rows_behind(only_at(many, place), matrix, most)
    behind = columns_ahead(matrix, only_at(many, goal), most)
    laps = lap_prices(matrix)
    found = []
    for middle in range(many):
        prices = prices_by_way(ahead, behind, middle)
        for size in range(1, many + 1):
            lap = laps[size - 1][middle]
            for beside in range(steps % size, most + 1, size):
                if lap is not None and prices[beside] is not None:
                    found.append((prices[beside] + (steps - beside) // size * lap, middle, size, beside))
    return min(found)


def split_at(matrix, place, middle, goal, steps):
    """How many of the steps of a cheapest walk by the middle lead to it."""
    ahead = rows_behind(only_at(len(matrix), place), matrix, steps)
    behind = columns_ahead(matrix, only_at(len(matrix), goal), steps)
    found = [(ahead[k][middle] + behind[steps - k][middle], k) for k in range(steps + 1)
             if ahead[k][middle] is not None and behind[steps - k][middle] is not None]
    return min(found)[1]


def cheapest_walk(matrix, place, goal, steps):
    """The tuple (ahead, lap, times, behind) of a cheapest walk: places along it, a lap done so often between them."""
    if steps <= longest_walk(len(matrix)):
        return (places_along(matrix, place, goal, steps), [goal], 0, [goal])
    _, middle, size, beside = best_lap(matrix, place, goal, steps)
    first = split_at(matrix, place, middle, goal, beside)
    return (places_along(matrix, place, middle, first), places_along(matrix, middle, middle, size),
            (steps - beside) // size, places_along(matrix, middle, goal, beside - first))

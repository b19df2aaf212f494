"""Cheapest short goings that come back to their number, and cheapest walks along a matrix of prices."""

from lonetill.minplus import behind_one, only_at, row_behind, turned_over


def priced_ways(house, prices):
    """For each place the list of its plain deeds: tuples (position, change, goal, price)."""
    out = [[] for _ in range(house.places)]
    for position, deed in enumerate(house.deeds()):
        if deed[3] == "any":
            out[deed[0]].append((position, deed[1], deed[2], prices[position]))
    return out


def put_at(queue, price, told):
    """Puts something in a queue, a dict from prices to lists."""
    if price not in queue:
        queue[price] = []
    queue[price].append(told)


def settled(ways, place, deep):
    """For each stand, seen from the place's number, the stand ahead of it on a cheapest way and the deed.

    The way falls at most so deep; more than the places times themselves, up or down, it never needs (point 63).
    """
    top = len(ways) * len(ways)
    low = 0 - min(deep, top)
    came = {}
    queue = {0: [(place, 0, None, None)]}
    while len(queue) > 0:
        price = min(queue)
        row = queue.pop(price)
        for middle, number, ahead, deed in row:
            if (middle, number) in came:
                continue
            came[(middle, number)] = (ahead, deed)
            for position, change, goal, cost in ways[middle]:
                if low <= number + change <= top and (goal, number + change) not in came:
                    put_at(queue, price + cost, (goal, number + change, (middle, number), position))
    return came


def deeds_back(came, stand):
    """The positions of the deeds that lead to the stand."""
    out = []
    while came[stand][0] is not None:
        stand, position = came[stand]
        out.append(position)
    return out[::-1]


def longest_walk(places):
    """So many steps at most has a walk that is told with a lap (point 64)."""
    return 2 * places * places + places


def rows_behind(row, matrix, many):
    """The row of worths behind 0, 1, .. up to so many steps of the matrix."""
    out = [row]
    for _ in range(many):
        out.append(row_behind(out[-1], matrix))
    return out


def lap_prices(matrix):
    """For each number of steps from 1 up to that of the places, at its position less 1: what laps cost, by places."""
    out = []
    power = matrix
    for _ in range(len(matrix)):
        out.append({place: row[place] for place, row in enumerate(power) if place in row})
        power = behind_one(power, matrix)
    return out


def prices_by_way(ahead, behind, place, most):
    """For each number of steps up to most what a cheapest walk of so many by the place costs, or None."""
    return [min([ahead[k][place] + behind[steps - k][place] for k in range(steps + 1)
                 if place in ahead[k] and place in behind[steps - k]], default=None) for steps in range(most + 1)]


def places_along(matrix, place, goal, steps):
    """The places of a cheapest walk of so many steps from the place to the goal (there is one)."""
    rows = rows_behind(only_at(place), matrix, steps)
    out = [goal]
    for step in range(steps, 0, -1):
        goal = place_ahead(rows[step - 1], matrix, goal, rows[step][goal])
        out.append(goal)
    return out[::-1]


def place_ahead(row, matrix, goal, price):
    """The place whose worth in the row, and a step to the goal, come to this price."""
    for place, worth in row.items():
        if goal in matrix[place] and worth + matrix[place][goal] == price:
            return place
    return None


def best_lap(matrix, place, goal, steps):
    """The tuple (price, middle, size of the lap, steps beside the laps) of a cheapest walk of so many steps."""
    most = longest_walk(len(matrix))
    ahead = rows_behind(only_at(place), matrix, most)
    behind = rows_behind(only_at(goal), turned_over(matrix), most)
    found = []
    laps = lap_prices(matrix)
    for middle in range(len(matrix)):
        prices = prices_by_way(ahead, behind, middle, most)
        for size, lap in enumerate(laps, 1):
            for beside in range(steps % size, most + 1, size):
                if middle in lap and prices[beside] is not None:
                    found.append((prices[beside] + (steps - beside) // size * lap[middle], middle, size, beside))
    return min(found)


def split_at(matrix, place, middle, goal, steps):
    """How many of the steps of a cheapest walk by the middle lead to it."""
    ahead = rows_behind(only_at(place), matrix, steps)
    behind = rows_behind(only_at(goal), turned_over(matrix), steps)
    found = [(ahead[k][middle] + behind[steps - k][middle], k) for k in range(steps + 1)
             if middle in ahead[k] and middle in behind[steps - k]]
    return min(found)[1]


def cheapest_walk(matrix, place, goal, steps):
    """The tuple (ahead, lap, times, behind) of a cheapest walk: places along it, a lap done so often between them."""
    if steps <= longest_walk(len(matrix)):
        return (places_along(matrix, place, goal, steps), [goal], 0, [goal])
    _, middle, size, beside = best_lap(matrix, place, goal, steps)
    first = split_at(matrix, place, middle, goal, beside)
    return (places_along(matrix, place, middle, first), places_along(matrix, middle, middle, size),
            (steps - beside) // size, places_along(matrix, middle, goal, beside - first))

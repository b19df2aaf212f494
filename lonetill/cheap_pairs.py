"""All pairs of numbers between which goings cost at most so much, as triples of rows."""

from lonetill.costs import Costs
from lonetill.laps import Walks
from lonetill.minplus import only_at, row_behind
from lonetill.rows import trimmed, united
from lonetill.series import row_of
from lonetill.totals import mirrored_rows
from lonetill.triples import COUNTS, INTEGERS, each_once, merged, with_pairs


def cheap_part(family, many):
    """A list of the family of those numbers at which the endless family, or single one, tells at most many."""
    first, step, price, more, times = family
    if price > many:
        return []
    if times is None and more > 0:
        times = (many - price) // more + 1
    return [(first, step, price, more, times)]


def cheap_rows(families, many):
    """The rows of the numbers at which the families tell at most many."""
    return united([[row_of(part)] for family in families for part in cheap_part(family, many)])


def like_levels(costs):
    """The unlike levels, each with the row of the numbers that have it."""
    top = costs.top()
    return [(costs.level(number), [(number, number if number < top else None, 1, 1)]) for number in range(top + 1)]


def plain_triples(costs, place, goal, many):
    """The triples of what plain goings lead to, at most so dear."""
    out = []
    for level, rows in like_levels(costs):
        rows = trimmed(rows[0])
        up = Walks(costs.climbing, level[place], only_at(costs.many, goal)).families()
        out.append((rows, list(COUNTS), cheap_rows(up, many)))
        down = Walks(costs.dropping, only_at(costs.many, place), [row[goal] for row in level]).families()
        out.append((list(COUNTS), rows, mirrored_rows(cheap_rows(down, many))))
    return out


def falls_by_place(costs, place):
    """For each place the families of the prices, by their starts, of plain falls to it with 0."""
    ground = costs.level(0)
    return [Walks(costs.dropping, only_at(costs.many, place), [row[middle] for row in ground]).families()
            for middle in range(costs.many)]


def rises_by_place(costs, goal):
    """For each place with 0 the families of the prices, by their ends, of ways at 0 and a rise behind them."""
    out = []
    for middle in range(costs.many):
        lifted = row_behind(costs.turning[middle], costs.lifting)
        later = Walks(costs.climbing, lifted, only_at(costs.many, goal)).families()
        now = costs.turning[middle][goal]
        first = [] if now is None else [(0, 1, now, 0, 1)]
        out.append(first + [(number + 1, step, price, more, times) for number, step, price, more, times in later])
    return out


def zero_triples(costs, place, goal, many):
    """The triples of what goings that stand at 0 somewhere lead to, at most so dear."""
    out = []
    falls, rises = falls_by_place(costs, place), rises_by_place(costs, goal)
    for middle in range(costs.many):
        for part in range(many + 1):
            first = cheap_rows(falls[middle], part)
            second = cheap_rows(rises[middle], many - part)
            out.append((first, second, list(INTEGERS)))
    return out


def pairs_within(house, prices, place, goal, many):
    """The triples of all (n, m) such that goings from (place, n) to (goal, m) cost at most so much."""
    costs = Costs(house, prices)
    found = plain_triples(costs, place, goal, many) + zero_triples(costs, place, goal, many)
    return merged(with_pairs(each_once(found)))

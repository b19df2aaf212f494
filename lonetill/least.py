"""Least prices: of two stands, of all ends, of all starts, and of all pairs up to a price."""

from lonetill.checks import check_many, check_place, check_stands, check_ways
from lonetill.cheap_pairs import pairs_within
from lonetill.costs import Costs
from lonetill.errors import InvalidMany
from lonetill.grids import grid_of_triples
from lonetill.tariffs import check_few, check_prices, prices_from, prices_to

MOST_PRICE = 40


def least_price(house, prices, place, start, goal, end):
    """The least price of the goings from the stand (place, start) to the stand (goal, end); None without one."""
    check_prices(house, prices)
    check_stands(house, place, start, goal, end)
    check_few(house)
    return Costs(house, prices).least_price(place, start, goal, end)


def price_from(house, prices, place, start):
    """The dict from all places to the Leasts that tell for each end the least price from the stand to it."""
    check_prices(house, prices)
    check_place(house, place)
    check_many(start)
    check_few(house)
    return prices_from(house, prices, place, start)


def price_to(house, prices, goal, end):
    """The dict from all places to the Leasts that tell for each start the least price from it to the stand."""
    check_prices(house, prices)
    check_place(house, goal)
    check_many(end)
    check_few(house)
    return prices_to(house, prices, goal, end)


def within(house, prices, place, goal, many):
    """The Grid of the pairs (n, m) whose least price from (place, n) to (goal, m) is at most many."""
    check_prices(house, prices)
    check_ways(house, place, goal)
    check_many(many)
    if many > MOST_PRICE:
        raise InvalidMany(many)
    check_few(house)
    return grid_of_triples(pairs_within(house, prices, place, goal, many))

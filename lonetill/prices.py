"""Prices of goings, and cheapest goings."""

from lonetill.checks import check_stands
from lonetill.courses import course_of
from lonetill.routes import Routes
from lonetill.tariffs import are_prices, check_few, check_prices


def is_prices(house, value):
    """Whether any value is prices of the house."""
    return are_prices(house, value)


def price_within(prices, going):
    """The price of a going by its form."""
    total = 0
    for item in going:
        price = price_within(prices, item[0]) * item[1] if isinstance(item, tuple) else prices[item]
        total = total + price
    return total


def price_of(house, prices, going):
    """The sum of the prices of the deeds of the going."""
    check_prices(house, prices)
    course_of(house, going)
    return price_within(prices, going)


def cheapest_going(house, prices, place, start, goal, end):
    """A going of the least price from the stand (place, start) to the stand (goal, end); None without one."""
    check_prices(house, prices)
    check_stands(house, place, start, goal, end)
    check_few(house)
    return Routes(house, prices).going(place, start, goal, end)

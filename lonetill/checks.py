"""The errors that belong to parameters of the same name everywhere."""

from lonetill.basics import is_count, is_integer
from lonetill.errors import InvalidMany, InvalidNumber, InvalidPlace


def check_number(number):
    """InvalidNumber unless it is an INTEGER."""
    if not is_integer(number):
        raise InvalidNumber(number)


def check_end(number):
    """InvalidNumber unless it is an INTEGER, or None for no end."""
    if number is not None and not is_integer(number):
        raise InvalidNumber(number)


def check_many(many):
    """InvalidMany unless it is a COUNT."""
    if not is_count(many):
        raise InvalidMany(many)


def check_place(house, place):
    """InvalidPlace unless it is the number of a place of the house."""
    if not is_count(place) or place >= house.places:
        raise InvalidPlace(place)


def check_ways(house, place, goal):
    """InvalidPlace with the first one of both that is no place of the house."""
    check_place(house, place)
    check_place(house, goal)


def check_stands(house, place, start, goal, end):
    """What is due for the stands (place, start) and (goal, end), one behind another."""
    check_place(house, place)
    check_many(start)
    check_place(house, goal)
    check_many(end)

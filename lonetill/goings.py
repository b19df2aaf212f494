"""Goings told in laps: what they need, what they gain and where they lead."""

from lonetill.checks import check_many, check_place
from lonetill.courses import course_of, course_or_none
from lonetill.errors import InvalidGoing, NotPlain


def is_going(house, place, start, value):
    """Whether any value is a going that can be done from the stand (place, start)."""
    check_place(house, place)
    check_many(start)
    course = course_or_none(house, value)
    return course is not None and course.fits(place, start)


def behind(house, place, start, going):
    """The stand behind the going, done from the stand (place, start)."""
    check_place(house, place)
    check_many(start)
    course = course_of(house, going)
    if not course.fits(place, start):
        raise InvalidGoing(going)
    return (place if course.many == 0 else course.finish, start + course.gain)


def gain_of(house, going):
    """The sum of the changes of its deeds."""
    return course_of(house, going).gain


def need_of(house, going):
    """The least number from which the plain going can be done."""
    course = course_of(house, going)
    if course.only:
        raise NotPlain()
    return course.need


def deeds_in(house, going):
    """How many deeds it has."""
    return course_of(house, going).many

"""What a going does as a whole: from which numbers it can be done, and where it leads."""

from lonetill.basics import is_count, is_list
from lonetill.errors import InvalidGoing

MOST_LISTS = 4


class Course:
    """A row of deeds as a whole.

    Without deeds begin and finish are None. An only course holds an "empty" deed: it can be done
    from the number need alone; any other one from need on. A vain one can be done from none.
    """

    def __init__(self, begin, finish, many, gain, need, only, vain):
        self.begin = begin
        self.finish = finish
        self.many = many
        self.gain = gain
        self.need = need
        self.only = only
        self.vain = vain

    def fits(self, place, start):
        """Whether it can be done from the stand (place, start)."""
        if self.many == 0:
            return True
        if self.vain or self.begin != place:
            return False
        return start == self.need if self.only else start >= self.need


def no_course():
    """The course without deeds."""
    return Course(None, None, 0, 0, 0, False, False)


def deed_course(deed):
    """The course of one deed."""
    place, change, goal, when = deed
    return Course(place, goal, 1, change, max(0, 0 - change), when == "empty", False)


def is_vain_behind(one, two):
    """Whether no number that the first course can end with lets the second one be done."""
    if not one.only:
        return two.only and two.need - one.gain < one.need
    end = one.need + one.gain
    return end != two.need if two.only else end < two.need


def behind_another(one, two):
    """The course of both, one behind the other; None if they do not hang together."""
    if one.many == 0 or two.many == 0:
        return two if one.many == 0 else one
    if one.finish != two.begin:
        return None
    need = one.need
    if not one.only:
        need = two.need - one.gain if two.only else max(one.need, two.need - one.gain)
    vain = one.vain or two.vain or is_vain_behind(one, two)
    return Course(one.begin, two.finish, one.many + two.many, one.gain + two.gain, need, one.only or two.only, vain)


def done_often(course, times):
    """The course done so often, at least once; None if it does not hang together."""
    if times == 1:
        return course
    if course.begin != course.finish:
        return None
    need, vain = course.need, course.vain
    if course.only:
        vain = vain or course.gain != 0
    elif course.gain < 0:
        need = need - (times - 1) * course.gain
    return Course(course.begin, course.finish, course.many * times, course.gain * times, need, course.only, vain)


def has_going_form(many, value, lists):
    """Whether any value is a going of so many deeds (None: of any) by its form, so many lists within one another."""
    if lists == 0 or not is_list(value):
        return False
    for item in value:
        if isinstance(item, tuple):
            if len(item) != 2 or not is_count(item[1]) or not has_going_form(many, item[0], lists - 1):
                return False
        elif not is_count(item) or (many is not None and item >= many):
            return False
    return True


def course_within(deeds, going):
    """The course of a going by its form; None if it does not hang together."""
    course = no_course()
    for item in going:
        if isinstance(item, tuple):
            more = course_within(deeds, item[0]) if item[1] > 0 else no_course()
            more = None if more is None else done_often(more, item[1])
        else:
            more = deed_course(deeds[item])
        course = None if more is None else behind_another(course, more)
        if course is None:
            return None
    return course


def course_or_none(house, value):
    """The course of any value that is a going of the house that hangs together; None for others."""
    if not has_going_form(len(house), value, MOST_LISTS):
        return None
    return course_within(house.deeds(), value)


def course_of(house, going):
    """The course of a going: InvalidGoing unless it is one of the house that hangs together."""
    course = course_or_none(house, going)
    if course is None:
        raise InvalidGoing(going)
    return course

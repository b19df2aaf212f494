"""Families: tuples (first, step, price, more, many) that tell the worth price + i more at first + i step."""

from lonetill.basics import is_count, is_integer
from lonetill.rows import combined, trimmed, united
from lonetill.seeks import last_number, next_number

MOST_STEP = 10
# So many families are looked at together.
AT_ONCE = 500


def is_family(value):
    """Whether any value is a family."""
    if not isinstance(value, tuple) or len(value) != 5:
        return False
    first, step, price, more, many = value
    if not all([is_integer(number) for number in (first, step, price, more)]):
        return False
    if not 1 <= step <= MOST_STEP or price < 0:
        return False
    if many is None:
        return more >= 0
    return is_count(many) and many > 0 and price + (many - 1) * more >= 0


def last_of(family):
    """The last number at which the family tells a worth; None without an end."""
    first, step, _, _, many = family
    return None if many is None else first + (many - 1) * step


def worth_at(family, number):
    """The worth that the family tells at the number; None without one."""
    first, step, price, more, many = family
    at, rest = divmod(number - first, step)
    if rest != 0 or at < 0 or (many is not None and at >= many):
        return None
    return price + at * more


def least_worth(families, number):
    """The least worth that the families tell at the number; None without one."""
    worths = [worth_at(family, number) for family in families]
    return min([worth for worth in worths if worth is not None], default=None)


def row_of(family):
    """The row of the numbers at which the family tells a worth."""
    first, step, _, _, _ = family
    return trimmed((first, last_of(family), step, 1 << (first % step)))[0]


def whole_row(family):
    """The row of the positions of all numbers of the family."""
    return (0, None if family[4] is None else family[4] - 1, 1, 1)


def divided_up(number, by):
    """The least INTEGER that is not below the number divided by a number above 0."""
    return 0 - ((0 - number) // by)


def lesser_end(one, other):
    """The lesser of two upper ends; None is none."""
    if one is None or other is None:
        return other if one is None else one
    return min(one, other)


def class_under(one, family):
    """The rest and the period of the positions of the family's numbers that one's steps come by; None if none are."""
    for rest in range(one[1]):
        if (family[0] + rest * family[1] - one[0]) % one[1] == 0:
            period = 1
            while (period * family[1]) % one[1] != 0:
                period = period + 1
            return (rest % period, period)
    return None


def row_under(one, family):
    """A list of the row of the positions of the family's numbers at which one tells no more than it; perhaps empty."""
    first, step, price, more, many = family
    last = last_of(one)
    low = max(0, divided_up(one[0] - first, step))
    high = lesser_end(None if many is None else many - 1, None if last is None else (last - first) // step)
    # What one tells is no more exactly if the position times the slope is at most the room.
    slope = step * one[3] - more * one[1]
    room = (price - one[2]) * one[1] - (first - one[0]) * one[3]
    if slope > 0:
        high = lesser_end(high, room // slope)
    if slope < 0:
        low = max(low, divided_up(0 - room, 0 - slope))
    if (slope == 0 and room < 0) or (high is not None and low > high):
        return []
    rests = class_under(one, family)
    return [] if rests is None else trimmed((low, high, rests[1], 1 << rests[0]))


def left_of(family, families):
    """The rows of the positions of the family's numbers at which the families tell more, or nothing."""
    if family in families:
        return []
    rows = [row_under(one, family) for one in families]
    left = [whole_row(family)]
    if left in rows:
        return []
    told = [row for row in rows if len(row) > 0]
    for at in range(0, len(told), AT_ONCE):
        left = combined("less", left, united(told[at:at + AT_ONCE]))
    return left


def are_over(families, others):
    """Whether the others tell, wherever the families do, a worth that is not greater."""
    return all([len(left_of(family, others)) == 0 for family in families])


def nearest_to_nothing(numbers):
    """The number nearest to 0, of two the lesser; None without numbers."""
    return min([(abs(number), number) for number in numbers])[1] if len(numbers) > 0 else None


def nearest_left(family, families):
    """A list of the number of the family nearest to 0 at which the families tell more, or nothing; perhaps empty."""
    rows = left_of(family, families)
    first, step, _, _, _ = family
    about = (0 - first) // step
    found = [last_number(rows, about), next_number(rows, about + 1)]
    return [first + at * step for at in found if at is not None]


def parting_of(families, others):
    """The number nearest to 0, of two the lesser, at which both lists tell unlike things; None without one."""
    found = [number for family in families for number in nearest_left(family, others)]
    found = found + [number for family in others for number in nearest_left(family, families)]
    return nearest_to_nothing(found)


def cheapest_in(family):
    """The tuple of the least worth of a family and the number nearest to 0, of two the lesser, that has it."""
    first, step, price, more, many = family
    if more > 0 or many == 1:
        return (price, first)
    if more < 0:
        return (price + (many - 1) * more, last_of(family))
    row = [row_of(family)]
    found = [last_number(row, 0), next_number(row, 0)]
    return (price, nearest_to_nothing([number for number in found if number is not None]))


def part_from(families, low):
    """What the families tell at the numbers from low on, as families."""
    out = []
    for first, step, price, more, many in families:
        at = max(0, divided_up(low - first, step))
        if many is None or at < many:
            out.append((first + at * step, step, price + at * more, more, None if many is None else many - at))
    return out


def moved_families(families, number, worth):
    """The families, all numbers moved by one number, all worths more by another."""
    return [(first + number, step, price + worth, more, many) for first, step, price, more, many in families]


def is_told_by(family, number, lap, price):
    """Whether a family without end, or a single one, tells all that goes on by this lap from the number, and no more.

    A lap is a tuple (step, more); one of step 0 tells the one number alone.
    """
    first, step, worth, more, many = family
    if number < first or (number - first) % step != 0 or worth + (number - first) // step * more > price:
        return False
    if lap[0] == 0:
        return many is None or number == first
    return many is None and lap[0] % step == 0 and lap[0] // step * more <= lap[1]


def is_told(families, number, lap, price):
    """Whether one of the families tells all that goes on by this lap from the number, and no more."""
    for family in families:
        if is_told_by(family, number, lap, price):
            return True
    return False


def shortened(families):
    """Endless and single families, those left out that another one of them tells at no greater price."""
    out = []
    for first, (step, price, more) in sorted([(family[0], family[1:4]) for family in families if family[4] is None]):
        if not is_told(out, first, (step, more), price):
            out.append((first, step, price, more, None))
    return with_singles(out, [family for family in families if family[4] is not None])


def with_singles(families, singles):
    """The families, and those of single ones that they do not tell at no greater price."""
    return families + [family for family in singles if not is_told(families, family[0], (0, 0), family[2])]

"""What the tests hold the program against: goings walked stand by stand, numbers told one by one."""

import random

from lonetill.houses import House


def random_house(seed, most_places=4, most_deeds=8, empties=True):
    """A house that hangs on the seed alone."""
    dice = random.Random(seed)
    places = dice.randint(1, most_places)
    deeds = []
    for _ in range(dice.randint(0, most_deeds)):
        when = "empty" if empties and dice.random() < 0.3 else "any"
        change = dice.choice([0, 1] if when == "empty" else [-1, 0, 1, -1, 1])
        deed = (dice.randrange(places), change, dice.randrange(places), when)
        if deed not in deeds:
            deeds.append(deed)
    return House(places, deeds)


def steps_from(house, stand, plain_only):
    """The stands to which one deed leads."""
    place, number = stand
    out = []
    for begin, change, goal, when in house.deeds():
        if begin != place or number + change < 0:
            continue
        if when == "empty" and (plain_only or number != 0):
            continue
        out.append((goal, number + change))
    return out


def come_to_from(house, stand, top, plain_only=False):
    """The set of stands to which goings lead that never come above top."""
    seen = {stand}
    row = [stand]
    for now in row:
        for behind in steps_from(house, now, plain_only):
            if behind[1] <= top and behind not in seen:
                seen.add(behind)
                row.append(behind)
    return seen


def come_to_by_empty(house, stand, top):
    """The set of stands to which goings with at least one "empty" deed lead, up to top."""
    out = set()
    for place, number in come_to_from(house, stand, top, True):
        if number != 0:
            continue
        for begin, change, goal, when in house.deeds():
            if begin == place and when == "empty":
                out |= come_to_from(house, (goal, change), top)
    return out


def spare(house):
    """More than goings ever have to come above their greater end."""
    return house.places * house.places


def walked_need(house, place, goal, gain, most):
    """The least start of a gain, stand by stand, among the starts up to most; None if there is none."""
    for start in range(max(0, -gain), most + 1):
        if (goal, start + gain) in come_to_from(house, (place, start), max(start, start + gain) + spare(house), True):
            return start
    return None


def numbers_of(line, low, high):
    """The set of the numbers of a Line from low to high."""
    return {number for number in range(low, high + 1) if line.has(number)}

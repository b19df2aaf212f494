"""Goings walked stand by stand under roofs, and houses whose goings must climb far."""

from lonetill.houses import House
from tests.walked import come_to_from

FAR = 10 ** 29


def come_to_under(house, stand, roof):
    """The set of stands to which goings under the roof lead."""
    return come_to_from(house, stand, roof) if stand[1] <= roof else set()


def walked_roof(house, stand, behind, spare):
    """The least roof under which the stand leads to the other one, at most so much above both; None without one."""
    base = max(stand[1], behind[1])
    for roof in range(base, base + spare + 1):
        if behind in come_to_under(house, stand, roof):
            return roof
    return None


def rings(ups, downs, extra=()):
    """A ring up through some places and a ring down through others, and further deeds."""
    deeds = [(ups[k], 1, ups[(k + 1) % len(ups)], "any") for k in range(len(ups))]
    deeds += [(downs[k], -1, downs[(k + 1) % len(downs)], "any") for k in range(len(downs))]
    return House(1 + max(ups + downs), list(dict.fromkeys(deeds + list(extra))))


def dice_rings(dice, places):
    """A house with a ring up and a ring down through places by dice, and some further deeds."""
    deeds = []
    for change in (1, -1):
        ring = dice.sample(range(places), dice.randint(1, places))
        deeds += [(ring[k], change, ring[(k + 1) % len(ring)], "any") for k in range(len(ring))]
    for _ in range(dice.randint(0, 4)):
        when = dice.choice(["any", "empty"])
        deeds.append((dice.randrange(places), dice.choice([0, 1] if when == "empty" else [-1, 0, 1]), dice.randrange(places), when))
    return House(places, list(dict.fromkeys(deeds)))


# So far up a going must climb for what a few deeds could not do.
CLIMBERS = [rings([0, 1], [0, 1, 2]), rings([0, 1, 2], [0, 3, 4, 5]), rings([0, 1, 2, 3], [0, 4, 5], [(5, 0, 1, "empty"), (2, 1, 4, "empty")]),
            rings([0, 1, 2, 3, 4], [4, 5, 6, 7, 8, 9, 10], [(7, 1, 0, "empty")]),
            rings(list(range(7)), [0] + list(range(7, 16)), [(9, 0, 3, "empty"), (5, 1, 9, "empty")])]

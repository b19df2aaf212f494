"""Relations between places: lists of masks, the bit b of mask a telling whether a leads to b."""

from lonetill.masks import ones


def relation_of(many, pairs):
    """The relation of so many places that has just these pairs."""
    out = [0] * many
    for place, goal in pairs:
        out[place] = out[place] | (1 << goal)
    return out


def pairs_of(relation):
    """The sorted list of the pairs of a relation."""
    return [(place, goal) for place, mask in enumerate(relation) for goal in ones(mask)]


def image(relation, mask):
    """The mask of all places to which a place of the mask leads."""
    out = 0
    for place in ones(mask):
        out = out | relation[place]
    return out


def followed(one, two):
    """The relation of what the one, and the other behind it, lead to."""
    return [image(two, mask) for mask in one]


def joined(one, two):
    """The relation that has the pairs of both."""
    return [one[place] | two[place] for place in range(len(one))]


def led_back(relation):
    """The relation with all pairs the other way round."""
    return relation_of(len(relation), [(goal, place) for place, goal in pairs_of(relation)])


def closed(relation):
    """The least relation with these pairs and all (a, a) that is closed under one behind another."""
    out = [mask | (1 << place) for place, mask in enumerate(relation)]
    for middle in range(len(out)):
        more = out[middle]
        out = [mask | more if (mask >> middle) & 1 == 1 else mask for mask in out]
    return out

"""The levels of a house, and its climbs and drops, as relations between places."""

from lonetill.relations import closed, followed, joined, relation_of


def deed_relation(house, change, when):
    """The relation of the deeds of this change that can be done then ("any" or "empty")."""
    return relation_of(house.places, [(deed[0], deed[2]) for deed in house.deeds()
                                      if deed[1] == change and deed[3] == when])


def ground_of(ups, flats, downs):
    """The level 0: what plain goings of gain 0 lead to that never fall below their first number."""
    ground = closed(flats)
    while True:
        more = closed(joined(ground, followed(followed(ups, ground), downs)))
        if more == ground:
            return ground
        ground = more


def grades_of(ups, flats, downs):
    """The levels as relations, up to the first one that all further ones are alike."""
    ground = ground_of(ups, flats, downs)
    over = joined(flats, followed(followed(ups, ground), downs))
    out = [ground]
    while True:
        more = closed(joined(over, followed(followed(downs, out[-1]), ups)))
        if more == out[-1]:
            return out
        out.append(more)

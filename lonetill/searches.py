"""Short plain goings between near stands, found stand by stand."""


def plain_ways(house):
    """For each place the list of its plain deeds: tuples (position, change, goal)."""
    out = [[] for _ in range(house.places)]
    for position, deed in enumerate(house.deeds()):
        if deed[3] == "any":
            out[deed[0]].append((position, deed[1], deed[2]))
    return out


def searched(ways, stand, top):
    """For each stand that is come to without a number above top: the stand ahead of it and the deed."""
    came = {stand: None}
    row = [stand]
    at = 0
    while at < len(row):
        place, number = row[at]
        for position, change, goal in ways[place]:
            behind = (goal, number + change)
            if 0 <= behind[1] <= top and behind not in came:
                came[behind] = (row[at], position)
                row.append(behind)
        at += 1
    return came


def deeds_to(came, stand):
    """The positions of the deeds that lead to the stand; None if it was not come to."""
    if stand not in came:
        return None
    out = []
    while came[stand] is not None:
        stand, position = came[stand]
        out.append(position)
    return out[::-1]

"""Walks of so many steps along a relation, told as a walk with one lap done over and over."""

from lonetill.masks import ones
from lonetill.orbits import orbit_at, orbit_of
from lonetill.relations import led_back


def straight(relation, place, goal, many):
    """The places of a walk of so many steps (there is one), the first and the last one too."""
    left_to = orbit_of(led_back(relation), 1 << goal)
    out = [place]
    for left in range(many - 1, -1, -1):
        out.append(ones(relation[out[-1]] & orbit_at(left_to, left))[0])
    return out


def rounds_of(relation):
    """For 0, 1, .. up to as many steps as places the mask of the places that they lead back to."""
    orbits = [orbit_of(relation, 1 << place) for place in range(len(relation))]
    out = []
    for steps in range(len(relation) + 1):
        mask = 0
        for place, orbit in enumerate(orbits):
            mask = mask | (orbit_at(orbit, steps) & (1 << place))
        out.append(mask)
    return out


def lap_at(rounds, places, many):
    """A lap (place, steps), at one of the places, of steps that divide so many; None without one."""
    for steps in range(1, len(rounds)):
        if many % steps == 0 and rounds[steps] & places != 0:
            return (ones(rounds[steps] & places)[0], steps)
    return None


def bend(relation, place, goal, many, most):
    """Where a walk of so many steps takes a lap: tuple (steps ahead, steps behind, place, lap).

    All steps but those of the laps are at most so many: point 64 tells why that is enough.
    """
    ahead, left = orbit_of(relation, 1 << place), orbit_of(led_back(relation), 1 << goal)
    rounds = rounds_of(relation)
    for total in range(most + 1):
        for steps in range(total + 1):
            both = orbit_at(ahead, steps) & orbit_at(left, total - steps)
            lap = lap_at(rounds, both, many - total) if both != 0 else None
            if lap is not None:
                return (steps, total - steps) + lap
    return None


def march(relation, place, goal, many):
    """A walk of so many steps (there is one): tuple (places ahead, places of a lap, times, places behind).

    Without a lap its places are the one place where the walk ends.
    """
    most = 2 * len(relation) * len(relation) + len(relation)
    if many <= most:
        return (straight(relation, place, goal, many), [goal], 0, [goal])
    ahead, behind, middle, steps = bend(relation, place, goal, many, most)
    times = (many - ahead - behind) // steps
    return (straight(relation, place, middle, ahead), straight(relation, middle, middle, steps), times,
            straight(relation, middle, goal, behind))

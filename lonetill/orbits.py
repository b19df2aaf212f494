"""What comes behind 0, 1, 2, .. steps along a relation: masks that come again with a period."""

from lonetill.lines import Line
from lonetill.relations import image


def orbit_of(relation, mask):
    """The masks behind 0, 1, .. steps until one comes again, and the position from which they do."""
    masks = []
    seen = {}
    while mask not in seen:
        seen[mask] = len(masks)
        masks.append(mask)
        mask = image(relation, mask)
    return (masks, seen[mask])


def orbit_at(orbit, steps):
    """The mask behind so many steps."""
    masks, back = orbit
    if steps < len(masks):
        return masks[steps]
    return masks[back + (steps - back) % (len(masks) - back)]


def line_of_flags(flags, back):
    """The Line of all COUNTS whose flag is set, those from the position back on coming again."""
    period = len(flags) - back
    first = [steps for steps in range(back) if flags[steps]]
    rests = sorted([steps % period for steps in range(back, len(flags)) if flags[steps]])
    stretches = []
    if len(first) > 0:
        stretches.append((0, back - 1, back, first))
    if len(rests) > 0:
        stretches.append((back, None, period, rests))
    return Line(stretches)


def line_of_meetings(orbit, mask):
    """The Line of the numbers of steps behind which some place of the mask is come to."""
    masks, back = orbit
    return line_of_flags([found & mask != 0 for found in masks], back)

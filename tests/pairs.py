"""Blocks made by dice, and the pairs that they have, looked at one by one."""

from lonetill.lines import Line


def random_line(dice, wide, many, periods):
    """A Line of so many stretches, or None."""
    if dice.random() < 0.2:
        return None
    stretches = []
    for _ in range(dice.randint(1, many)):
        ends = [dice.choice([None, dice.randint(-wide, wide), dice.randint(-wide, wide)]) for _ in range(2)]
        if None not in ends:
            ends = sorted(ends)
        period = dice.choice(periods)
        rests = sorted(dice.sample(range(period), dice.randint(1, period)))
        stretches.append((ends[0], ends[1], period, rests))
    return Line(stretches)


def random_blocks(dice, blocks, wide=10, many=2, periods=(1, 2, 3, 4, 6, 12)):
    """So many blocks."""
    return [tuple(random_line(dice, wide, many, periods) for _ in range(3)) for _ in range(blocks)]


def is_in(blocks, start, end):
    """Whether a pair is in one of the blocks, as point 41 tells it."""
    return any((first is None or first.has(start)) and (second is None or second.has(end))
               and (far is None or far.has(end - start)) for first, second, far in blocks)


def pairs_of_blocks(blocks, most):
    """The set of the pairs of the blocks with both numbers up to most."""
    return {(start, end) for start in range(most + 1) for end in range(most + 1) if is_in(blocks, start, end)}


def pairs_of(grid, most):
    """The set of the pairs of a Grid with both numbers up to most."""
    return {(start, end) for start in range(most + 1) for end in range(most + 1) if grid.has(start, end)}


def far_pairs(dice, many):
    """Pairs near 0, near the diagonal, and far ones."""
    out = []
    for _ in range(many):
        start = dice.choice([dice.randint(0, 30), dice.randint(0, 400), 10 ** 28 + dice.randint(0, 30)])
        end = dice.choice([dice.randint(0, 30), max(0, start + dice.randint(-250, 250)), 10 ** 29 + dice.randint(0, 30)])
        out.append((start, end))
    return out

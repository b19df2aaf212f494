"""All pairs of numbers between which goings cost at most so much, as triples of rows."""

from lonetill.costs import Costs
from lonetill.laps import Walks
from lonetill.masks import full, turned
from lonetill.minplus import behind_one, only_at, turned_over
from lonetill.rows import common_step, tidy, trimmed
from lonetill.series import last_of, moved_families
from lonetill.totals import mirrored_rows
from lonetill.triples import COUNTS, INTEGERS, merged, with_pairs


def cheap_parts(families, many):
    """The parts of endless families, and single ones, that tell at most many."""
    out = []
    for first, step, price, more, times in families:
        if price <= many:
            if times is None and more > 0:
                times = (many - price) // more + 1
            out.append((first, step, price, more, times))
    return out


def bits_of_family(family, many):
    """The bits of the numbers of a family below many; its first one is."""
    first, step, _, _, times = family
    often = (many - first + step - 1) // step
    if times is not None:
        often = min(often, times)
    return (full(often * step) // full(step)) << first


class Masks:
    """Masks of the numbers at which families tell at most so much: from low on they come again with a size."""

    def __init__(self, families):
        self.low = max([part[0] if part[4] is None else last_of(part) + 1 for part in families], default=0)
        self.size = common_step([part[1] for part in families if part[4] is None])

    def masks(self, families, many):
        """For each price up to many the mask of the numbers at which the families tell at most so much."""
        out = [0] * (many + 1)
        for family in families:
            first, step, price, more, times = family
            if more == 0:
                out[price] = out[price] | bits_of_family(family, self.low + self.size)
            else:
                for at in range(times):
                    out[price + at * more] = out[price + at * more] | (1 << (first + at * step))
        for price in range(many):
            out[price + 1] = out[price + 1] | out[price]
        return out

    def rows_with(self, mask):
        """The rows of the numbers of a mask."""
        near = trimmed((0, self.low - 1, self.low, mask & full(self.low))) if self.low > 0 else []
        far = mask >> self.low
        if far == 0:
            return near
        return tidy(near + trimmed((self.low, None, self.size, turned(far, self.size, self.low))))


def cheap_rows(families, many):
    """The rows of the numbers at which the families tell at most many."""
    parts = cheap_parts(families, many)
    masks = Masks(parts)
    mask = 0
    for part in parts:
        mask = mask | bits_of_family(part, masks.low + masks.size)
    return masks.rows_with(mask)


def boxes_of(falls, rises, many):
    """The pairs of a mask of the one list and a mask of the other whose prices together are at most many."""
    out = []
    for price in range(many + 1):
        first, second = falls[price], rises[many - price]
        if first != 0 and second != 0 and (price == 0 or first != falls[price - 1]):
            out.append((first, second))
    return out


def by_first(boxes):
    """The pairs of masks, those with the same first one made one."""
    out = {}
    for first, second in boxes:
        out[first] = out.get(first, 0) | second
    return list(out.items())


def fewer_boxes(boxes):
    """Pairs of masks with the same pairs of numbers, none of them within another one."""
    out = by_first(boxes)
    out = [(first, second) for second, first in by_first([(second, first) for first, second in out])]
    return [box for box in out if not is_within_another(box, out)]


def is_within_another(box, boxes):
    """Whether another one of the unlike pairs of masks has all numbers of this one."""
    first, second = box
    return any([box != other and first | other[0] == other[0] and second | other[1] == other[1] for other in boxes])


class Pairs:
    """What goings from a place to a goal cost, up to a price; how they fall from the one, rise to the other."""

    def __init__(self, costs, place, goal, many):
        self.costs = costs
        self.place = place
        self.goal = goal
        self.many = many
        falls, rises = Walks(costs.dropping, many), Walks(turned_over(costs.climbing), many)
        falls.set_out(0, only_at(place))
        rises.set_out(0, only_at(goal))
        self.falls = falls.told()
        self.rises = rises.told()

    def families_behind(self, told, row):
        """The families of what is told of all places, the row's worth of the place added."""
        return [(first, step, price + row[place], more, many) for place, families in enumerate(told) if place in row
                for first, step, price, more, many in families]

    def plain_triples(self):
        """The triples of what plain goings lead to."""
        out = []
        top = self.costs.top()
        for number in range(top + 1):
            level = self.costs.level(number)
            rows = [(number, number if number < top else None, 1, 1)]
            up = self.families_behind(self.rises, level[self.place])
            down = self.families_behind(self.falls, turned_over(level)[self.goal])
            out.append((rows, list(COUNTS), cheap_rows(up, self.many)))
            out.append((list(COUNTS), rows, mirrored_rows(cheap_rows(down, self.many))))
        return merged(with_pairs(out))

    def rises_at_zero(self, middle, between):
        """The families of the prices, by their ends, of ways from the middle at 0 and a rise behind them."""
        out = moved_families(self.families_behind(self.rises, between[middle]), 1, 0)
        if self.goal in self.costs.turning[middle]:
            out.append((0, 1, self.costs.turning[middle][self.goal], 0, 1))
        return cheap_parts(out, self.many)

    def zero_triples(self):
        """The triples of what goings that stand at 0 somewhere lead to."""
        between = behind_one(self.costs.turning, self.costs.lifting)
        falls = [cheap_parts(families, self.many) for families in self.falls]
        rises = [self.rises_at_zero(middle, between) for middle in range(self.costs.many)]
        first = Masks([part for parts in falls for part in parts])
        second = Masks([part for parts in rises for part in parts])
        boxes = [box for down, up in zip(falls, rises)
                 for box in boxes_of(first.masks(down, self.many), second.masks(up, self.many), self.many)]
        return [(first.rows_with(one), second.rows_with(two), list(INTEGERS)) for one, two in fewer_boxes(boxes)]


def pairs_within(house, prices, place, goal, many):
    """The triples of all (n, m) such that goings from (place, n) to (goal, m) cost at most so much."""
    pairs = Pairs(Costs(house, prices), place, goal, many)
    return pairs.plain_triples() + pairs.zero_triples()

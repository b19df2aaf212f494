"""Blocks as triples of rows (first, second, far): the pairs (n, m) with n, m and m - n in them.

The first and the second rows are of COUNTS alone.
"""

from lonetill.rows import PERIOD, combined, common_step, is_long, part_of, shifted_rows, united
from lonetill.seeks import has_number, next_number
from lonetill.totals import mirrored_rows, sums_of_rows

COUNTS = ((0, None, 1, 1),)
INTEGERS = ((None, None, 1, 1),)
# So many starts are tried one by one, before all of them are looked at together.
TRIED = 3


def counts_within(line):
    """The rows of the COUNTS of a Line, or of None."""
    return list(COUNTS) if line is None else part_of(line.rows(), 0, None)


def triple_of(block):
    """The triple of a block."""
    first, second, far = block
    return (counts_within(first), counts_within(second), list(INTEGERS) if far is None else far.rows())


def is_all(far):
    """Whether the rows have all INTEGERS."""
    return far == list(INTEGERS)


def ends_behind(triple, start):
    """The rows of all m beside this n, of which it is known that it is in the first rows."""
    return combined("and", triple[1], shifted_rows(triple[2], start))


def starts_in(triple):
    """The rows of all n that have some m beside them."""
    first, second, far = triple
    if is_all(far):
        return first if len(second) > 0 else []
    near = reachable(triple)
    if len(near) == 0:
        return []
    return combined("and", first, sums_of_rows(second, mirrored_rows(near)))


def reachable(triple):
    """The rows of the differences that are not too great, or too small, for both sides."""
    first, second, far = triple
    low = None if first[-1][1] is None else second[0][0] - first[-1][1]
    high = None if second[-1][1] is None else second[-1][1] - first[0][0]
    if low is not None and high is not None and low > high:
        return []
    return part_of(far, low, high)


def first_start(triple):
    """The least n that has some m beside it; None without one."""
    first, second, far = triple
    if len(first) == 0 or len(second) == 0 or len(far) == 0 or len(reachable(triple)) == 0:
        return None
    start = first[0][0]
    for _ in range(TRIED):
        if start is None:
            return None
        if len(ends_behind(triple, start)) > 0:
            return start
        start = next_number(first, start + 1)
    found = starts_in(triple)
    return found[0][0] if len(found) > 0 else None


def first_pair(triples):
    """The first pair of all triples; None without one."""
    found = [(first_start(triple), triple) for triple in triples]
    starts = [start for start, _ in found if start is not None]
    if len(starts) == 0:
        return None
    least = min(starts)
    return (least, min([ends_behind(triple, least)[0][0] for start, triple in found if start == least]))


def with_pairs(triples):
    """Those triples that have a pair."""
    return [triple for triple in triples if first_start(triple) is not None]


def has_pair(triple, start, end):
    """Whether the pair is in the triple."""
    first, second, far = triple
    return has_number(first, start) and has_number(second, end) and has_number(far, end - start)


def shared(one, two):
    """The triple of the pairs that are in both."""
    return tuple([combined("and", one[k], two[k]) for k in range(3)])


def turned_triple(triple):
    """The triple of (m, n) for each pair (n, m)."""
    first, second, far = triple
    return (second, first, mirrored_rows(far))


def shifted_triple(triple, first, second):
    """The triple of all pairs moved by two numbers, as far as both are COUNTS."""
    return (part_of(shifted_rows(triple[0], first), 0, None), part_of(shifted_rows(triple[1], second), 0, None),
            shifted_rows(triple[2], second - first))


def ends_of(triples, start):
    """The rows of all m that stand beside n in some of the triples."""
    return united([ends_behind(triple, start) for triple in triples if has_number(triple[0], start)])


def starts_of(triples):
    """The rows of all n that have some m beside them."""
    return united([starts_in(triple) for triple in triples])


def key_of(rows):
    """What knows the rows among the keys of a dict."""
    return tuple(rows)


def may_be_united(lots):
    """Whether the numbers of all lots of rows together surely go by a period that is let."""
    return common_step([row[2] for rows in lots for row in rows if is_long(row)]) <= PERIOD


def united_by(group, side):
    """The triples of a group, all of them alike but for this side, as one where that may be."""
    lots = [triple[side] for triple in group]
    if len(group) == 1 or not may_be_united(lots):
        return group
    made = list(group[0])
    made[side] = united(lots)
    return [tuple(made)]


def merged_by(triples, side):
    """The triples, those that differ in this side alone made one."""
    groups = {}
    for triple in triples:
        key = tuple([key_of(triple[k]) for k in range(3) if k != side])
        groups.setdefault(key, []).append(triple)
    out = []
    for key in groups:
        out.extend(united_by(groups[key], side))
    return out


def merged(triples):
    """Fewer triples with the same pairs: those that are alike but for one side are made one."""
    out = triples
    while True:
        many = len(out)
        for side in (2, 1, 0):
            out = merged_by(out, side)
        if len(out) == many:
            return out


def each_once(triples):
    """The triples, each of them once."""
    seen = {}
    for triple in triples:
        seen[tuple([key_of(rows) for rows in triple])] = triple
    return [seen[key] for key in seen]

"""Words that are taken from just one of two places, or from none that the other one lacks."""

from lonetill.checks import check_many, check_place
from lonetill.closed import has_counts_alone
from lonetill.errors import TooMany
from lonetill.lines import Line
from lonetill.plains import Plains
from lonetill.readers import as_house, is_taken, is_word
from lonetill.rows import part_of, shifted_rows
from lonetill.seeks import lies_within
from lonetill.twins import Targets, Twins, check_both, check_changes, check_pairs, kind_of
from lonetill.walks import is_pair

MOST_START = 40


def check_alike(one, place, other, goal):
    """What is due for two places of two readers."""
    check_both(one, place, other, goal)
    check_changes(one, other)
    check_pairs(one, other)


def check_alike_at(one, place, other, goal, start):
    """What is due for two places of two readers and a number."""
    check_both(one, place, other, goal)
    check_many(start)
    check_changes(one, other)
    check_pairs(one, other)


def unlike_line(one, place, other, goal):
    """The Line of the numbers at which both are not alike."""
    twins = Twins(one, other)
    return Targets(twins.graph(), twins.unlike_kinds()).line(twins.place_of((place, goal)))


def unlike(one, place, other, goal):
    """The Line of the numbers at which both are not alike."""
    check_alike(one, place, other, goal)
    return unlike_line(one, place, other, goal)


def within_reader(one, place, other, goal):
    """The Line of the numbers at which each word that is taken from the place is taken from the goal."""
    check_alike(one, place, other, goal)
    twins = Twins(one, other)
    lacking = Targets(twins.graph(), twins.lacking_kinds()).line(twins.place_of((place, goal)))
    return Line.counts() - lacking


def taking(reader):
    """What leads along the reader's rows to good stands."""
    goods = reader.goods()
    return Targets(as_house(reader), [kind_of(goods, place) for place in range(reader.places)])


def some_word(reader, place):
    """The Line of the numbers from which some word is taken."""
    check_place(reader, place)
    return taking(reader).line(place)


def is_of_kind(kind, number):
    """Whether the number is of the kind."""
    return (kind >> min(number, 1)) & 1 == 1


def first_word(twins, pair, start):
    """The first one of the shortest words that lead from the pair to an unlike one (there is one)."""
    kinds = twins.unlike_kinds()
    steps = {}
    for ahead, letter, change, goal in twins.steps():
        steps.setdefault(ahead, []).append((letter, change, goal))
    row = [(pair, start, "")]
    seen = {(pair, start): True}
    at = 0
    # Words of one length come by the alphabet: so the first one that comes to a stand is the one to keep.
    while not is_of_kind(kinds[twins.place_of(row[at][0])], row[at][1]):
        now, number, word = row[at]
        for letter, change, goal in steps.get(now, []):
            stand = (goal, number + change)
            if stand[1] >= 0 and stand not in seen:
                seen[stand] = True
                row.append((goal, number + change, word + letter))
        at += 1
    return row[at][2]


def parting_word(one, place, other, goal, start):
    """The first one of the shortest words that are taken from just one of both places; None without one."""
    check_both(one, place, other, goal)
    check_many(start)
    check_changes(one, other)
    if start > MOST_START:
        raise TooMany("start", MOST_START)
    check_pairs(one, other)
    if not unlike_line(one, place, other, goal).has(start):
        return None
    return first_word(Twins(one, other), (place, goal), start)


def is_parting(one, place, other, goal, start, value):
    """Whether any value is a word that is taken from just one of both places."""
    check_alike_at(one, place, other, goal, start)
    return is_word(one, value) and is_taken(one, place, start, value) != is_taken(other, goal, start, value)


def alike_lines(one, place, other, goal, start):
    """Alike lines of both places and the number; None without any."""
    check_alike_at(one, place, other, goal, start)
    if unlike_line(one, place, other, goal).has(start):
        return None
    twins = Twins(one, other)
    plains = Plains(twins.graph())
    ahead = twins.place_of((place, goal))
    lines = {pair: plains.gains(ahead, twins.place_of(pair), start).shifted(start) for pair in twins.pairs()}
    return {pair: line for pair, line in lines.items() if not line.is_empty}


def are_lines_of_pairs(twins, value):
    """Whether any value is a dict from pairs to Lines of COUNTS."""
    if not isinstance(value, dict):
        return False
    pairs = twins.pairs()
    return all([is_pair(pair) and pair in pairs and has_counts_alone(value[pair]) for pair in value])


def keeps_alike(kind, line):
    """Whether no number of the Line is of the kind."""
    if kind & 1 == 1 and line.has(0):
        return False
    return kind & 2 == 0 or line.next_from(1) is None


def stays_alike(step, value):
    """Whether a letter leads from no number of its pair's Line out of that of its goal."""
    pair, _, change, goal = step
    if pair not in value:
        return True
    behind = value[goal].rows() if goal in value else []
    return lies_within(part_of(shifted_rows(value[pair].rows(), change), 0, None), behind)


def is_alike_lines(one, place, other, goal, start, value):
    """Whether any value is alike lines of both places and the number."""
    check_alike_at(one, place, other, goal, start)
    twins = Twins(one, other)
    if not are_lines_of_pairs(twins, value) or (place, goal) not in value or not value[(place, goal)].has(start):
        return False
    kinds = twins.unlike_kinds()
    if not all([keeps_alike(kinds[twins.place_of(pair)], line) for pair, line in value.items()]):
        return False
    return all([stays_alike(step, value) for step in twins.steps()])

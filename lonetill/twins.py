"""Two readers side by side: their pairs, and from which numbers letters lead to stands of some kind.

A kind is a mask: bit 0 stands for the number 0, bit 1 for all numbers above it.
"""

from lonetill.checks import check_place
from lonetill.errors import TooMany, UnlikeChanges
from lonetill.lines import Line
from lonetill.masks import mask_of
from lonetill.relations import image
from lonetill.tills import Tills

MOST_PAIRS = 16
KINDS = {"any": 3, "empty": 1, "some": 2}
WORDS = {3: "any", 1: "empty", 2: "some"}
# The least number from which all are of the kind, 0, 1, 2 or 3, if there are any so far up.
LEAST_ABOVE = (None, None, 1, 0)


def kind_of(goods, place):
    """The kind of the numbers with which a place is good."""
    return KINDS[goods[place]] if place in goods else 0


def goods_of_kinds(kinds):
    """The goods by which the places are of these kinds."""
    return {place: WORDS[kind] for place, kind in enumerate(kinds) if kind != 0}


class Graph:
    """Places, as many as are needed, and plain deeds, each once: what Tills look at of a house."""

    def __init__(self, places, deeds):
        self._places = places
        self._deeds = sorted(set(deeds))

    @property
    def places(self):
        """How many places it has."""
        return self._places

    def deeds(self):
        """The sorted list of its deeds."""
        return list(self._deeds)


class Twins:
    """The pairs of two readers as places of one: the pair (p, q) is p times one more than the other's places, and q."""

    def __init__(self, one, other):
        self._lost = (one.places, other.places)
        self._width = other.places + 1
        self._steps = one.changes()
        self._goals = (reader_goals(one), reader_goals(other))
        goods, others = one.goods(), other.goods()
        self._kinds = [(kind_of(goods, p), kind_of(others, q)) for p, q in self.pairs()]

    def place_of(self, pair):
        """The place of a pair."""
        return pair[0] * self._width + pair[1]

    def pairs(self):
        """The list of all pairs, by their places; the one of which both are lost is none."""
        many = (self._lost[0] + 1) * self._width - 1
        return [(place // self._width, place % self._width) for place in range(many)]

    def goal_behind(self, pair, letter):
        """The pair to which a letter leads from a pair; None where it leads nowhere."""
        goal = self._goals[0].get((pair[0], letter), self._lost[0])
        other = self._goals[1].get((pair[1], letter), self._lost[1])
        return None if (goal, other) == self._lost else (goal, other)

    def steps(self):
        """The list of the tuples (pair, letter, change, goal), by their pairs."""
        found = [(pair, letter, self._steps[letter], self.goal_behind(pair, letter))
                 for pair in self.pairs() for letter in self._steps]
        return [step for step in found if step[3] is not None]

    def graph(self):
        """The Graph of the pairs."""
        deeds = [(self.place_of(pair), change, self.place_of(goal), "any") for pair, _, change, goal in self.steps()]
        return Graph(len(self._kinds), deeds)

    def unlike_kinds(self):
        """For each pair the kind of the numbers with which just one of both is good."""
        return [left ^ right for left, right in self._kinds]

    def joined_kinds(self):
        """For each pair the kind of the numbers with which one of both is good."""
        return [left | right for left, right in self._kinds]

    def lacking_kinds(self):
        """For each pair the kind of the numbers with which the first one is good, and not the other one."""
        return [left ^ (left & right) for left, right in self._kinds]


def reader_goals(reader):
    """The dict from the places and letters of a reader's rows to their goals."""
    return {(place, letter): goal for place, letter, goal in reader.rows()}


def least_unlike_change(one, other):
    """The least letter that has not the same change in both, or is in just one; None without one."""
    changes, others = one.changes(), other.changes()
    for letter in sorted(set(list(changes) + list(others))):
        if changes.get(letter) != others.get(letter):
            return letter
    return None


def check_changes(one, other):
    """UnlikeChanges unless both have the same letters with the same changes."""
    letter = least_unlike_change(one, other)
    if letter is not None:
        raise UnlikeChanges(letter)


def check_pairs(one, other):
    """TooMany if both have more pairs than are looked at."""
    if (one.places + 1) * (other.places + 1) - 1 > MOST_PAIRS:
        raise TooMany("places", MOST_PAIRS)


def check_both(one, place, other, goal):
    """InvalidPlace with the first one of both that is no place of its reader."""
    check_place(one, place)
    check_place(other, goal)


def needs_of_kinds(graph, kinds):
    """For each place the least number from which all lead to one of a kind with numbers above 0; None without one."""
    needs = [LEAST_ABOVE[kind] for kind in kinds]
    changed = True
    while changed:
        changed = False
        for place, change, goal, _ in graph.deeds():
            if needs[goal] is not None:
                need = max(0, needs[goal] - change)
                if needs[place] is None or need < needs[place]:
                    needs[place] = need
                    changed = True
    return needs


class Targets:
    """What leads along a Graph to stands of the places' kinds."""

    def __init__(self, graph, kinds):
        self._tills = Tills(graph)
        self._needs = needs_of_kinds(graph, kinds)
        self._zeros = mask_of([place for place, kind in enumerate(kinds) if kind == 1])

    def line(self, place):
        """The Line of the numbers from which the place leads to them."""
        line = self._tills.starts_of_zeros(self._zeros, place)
        need = self._needs[place]
        return line if need is None else line | Line([(need, None, 1, [0])])

    def is_met_at_zero(self, place):
        """Whether the place leads to them with 0."""
        return self._needs[place] == 0 or image(self._tills.ground, 1 << place) & self._zeros != 0

    def places_at_zero(self):
        """The list of the places that lead to them with 0."""
        return [place for place in range(len(self._needs)) if self.is_met_at_zero(place)]

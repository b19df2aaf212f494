"""Houses: places, and deeds that lead from place to place and change a number."""

from lonetill.basics import is_count, is_integer, is_list
from lonetill.errors import InvalidDeed, InvalidDeeds, InvalidHouse, InvalidOrder, InvalidPlaces
from lonetill.errors import InvalidPosition, NotPlain, TooMany

MOST_PLACES = 16
MOST_DEEDS = 60


def is_deed(value, places):
    """Whether any value is a deed of so many places."""
    if not isinstance(value, tuple) or len(value) != 4:
        return False
    place, change, goal, when = value
    if not all([is_count(end) and end < places for end in (place, goal)]):
        return False
    if not is_integer(change) or not isinstance(when, str):
        return False
    return (when == "any" and -1 <= change <= 1) or (when == "empty" and 0 <= change <= 1)


def check_deeds(places, deeds):
    """InvalidDeeds unless it is a list of unlike deeds of so many places, TooMany if too many."""
    if not is_list(deeds):
        raise InvalidDeeds(None)
    for position, deed in enumerate(deeds):
        if not is_deed(deed, places) or deed in deeds[:position]:
            raise InvalidDeeds(position)
    if len(deeds) > MOST_DEEDS:
        raise TooMany("deeds", MOST_DEEDS)


class House:
    """Places, and deeds between them in a sequence; it never changes."""

    def __init__(self, places, deeds):
        if not is_integer(places) or not 1 <= places <= MOST_PLACES:
            raise InvalidPlaces(places)
        check_deeds(places, deeds)
        self._places = places
        self._deeds = list(deeds)

    @property
    def places(self):
        """How many places it has."""
        return self._places

    @property
    def is_plain(self):
        """Whether it has no "empty" deed."""
        return all([when == "any" for _, _, _, when in self._deeds])

    def deeds(self):
        """The list of its deeds, as passed."""
        return list(self._deeds)

    def __len__(self):
        return len(self._deeds)

    def __eq__(self, other):
        if not isinstance(other, House):
            return NotImplemented
        return self._places == other._places and self._deeds == other._deeds

    def __repr__(self):
        return f"House({self._places}, {self._deeds!r})"

    def with_deed(self, deed):
        """The House with this deed behind the others."""
        if not is_deed(deed, self._places) or deed in self._deeds:
            raise InvalidDeed(deed)
        return House(self._places, self._deeds + [deed])

    def without_deed(self, position):
        """The House without the deed at this position."""
        if not is_count(position) or position >= len(self._deeds):
            raise InvalidPosition(position)
        return House(self._places, self._deeds[:position] + self._deeds[position + 1:])

    def renumbered(self, order):
        """The House in which the place i is called order[i]."""
        if not is_list(order) or not all([is_count(place) for place in order]):
            raise InvalidOrder(order)
        if sorted(order) != list(range(self._places)):
            raise InvalidOrder(order)
        return House(self._places, [(order[place], change, order[goal], when)
                                    for place, change, goal, when in self._deeds])

    def beside(self, other):
        """The House with the places and the deeds of the other one behind its own."""
        if not isinstance(other, House):
            raise InvalidHouse(other)
        if self._places + other._places > MOST_PLACES:
            raise TooMany("places", MOST_PLACES)
        moved = [(place + self._places, change, goal + self._places, when)
                 for place, change, goal, when in other._deeds]
        return House(self._places + other._places, self._deeds + moved)

    def plain(self):
        """The House without the "empty" deeds."""
        return House(self._places, [deed for deed in self._deeds if deed[3] == "any"])

    def turned(self):
        """The plain House with all deeds led back."""
        if not self.is_plain:
            raise NotPlain()
        return House(self._places, [(goal, 0 - change, place, when)
                                    for place, change, goal, when in self._deeds])

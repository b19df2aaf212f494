"""Readers with fewer places, maps of readers, and where one coin more lets more."""

from lonetill.basics import is_list
from lonetill.checks import check_place
from lonetill.errors import TooMany
from lonetill.readers import Reader, as_house, is_place_of
from lonetill.twins import Targets, Twins, check_changes, check_pairs
from lonetill.words import taking

MOST_PLACES = 5


def alike_pairs(one, other):
    """For each place of the one reader the list of the other's places that are alike to it."""
    twins = Twins(one, other)
    targets = Targets(twins.graph(), twins.unlike_kinds())
    return [[goal for goal in range(other.places) if targets.line(twins.place_of((place, goal))).is_empty]
            for place in range(one.places)]


def check_few(reader):
    """TooMany if the reader has more places than are put into classes."""
    if reader.places > MOST_PLACES:
        raise TooMany("places", MOST_PLACES)


def classes_of(reader):
    """The lists of the places that are alike, by their first ones."""
    alike = alike_pairs(reader, reader)
    return [alike[place] for place in range(reader.places) if alike[place][0] == place]


def alike_places(reader):
    """The classes of the reader, a list of lists."""
    check_few(reader)
    return classes_of(reader)


def least_reader(reader):
    """The tuple of the least Reader and the classes that its places stand for."""
    check_few(reader)
    classes = classes_of(reader)
    numbers = {place: number for number, places in enumerate(classes) for place in places}
    firsts = [places[0] for places in classes]
    rows = [(numbers[place], letter, numbers[goal]) for place, letter, goal in reader.rows() if place in firsts]
    goods = {numbers[place]: good for place, good in reader.goods().items() if place in firsts}
    return (Reader(len(classes), reader.changes(), rows, goods), classes)


def map_to(one, other):
    """The map of the one reader to the other one with the least place for each; None without one."""
    check_changes(one, other)
    check_pairs(one, other)
    alike = alike_pairs(one, other)
    return [goals[0] for goals in alike] if all([len(goals) > 0 for goals in alike]) else None


def is_map(one, other, value):
    """Whether any value is a map of the one reader to the other one."""
    check_changes(one, other)
    check_pairs(one, other)
    if not is_list(value) or len(value) != one.places:
        return False
    if not all([is_place_of(other.places, goal) for goal in value]):
        return False
    return all([goal in goals for goal, goals in zip(value, alike_pairs(one, other))])


def rising_line(reader, place):
    """The Line of the numbers at which one coin more lets more."""
    zeros = taking(reader).places_at_zero()
    changes, goods = reader.changes(), reader.goods()
    spent = [at for at, letter, goal in reader.rows() if changes[letter] == -1 and goal in zeros]
    kinds = [1 if goods.get(at) == "some" or at in spent else 0 for at in range(reader.places)]
    return Targets(as_house(reader), kinds).line(place)


def more_line(reader, place):
    """The Line of the numbers at which one coin more lets more words be taken from the place."""
    check_place(reader, place)
    return rising_line(reader, place)


def more_from(reader, place):
    """The least number from which on one coin more never lets more; None without one."""
    check_place(reader, place)
    line = rising_line(reader, place)
    if line.is_empty:
        return 0
    return None if line.greatest() is None else line.greatest() + 1

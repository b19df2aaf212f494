"""What sayings mean, and whether they hold."""

from lonetill.basics import is_count
from lonetill.errors import InvalidSaying, InvalidValues, MissingLetter, OpenSaying
from lonetill.sayings import check_saying, free_letters, is_letter, is_saying
from lonetill.senses import letters_together, raised_to, sense_of


def meaning(house, saying):
    """The meaning of a saying: a Grid, a Line or a bool by its free letters."""
    check_saying(house, saying)
    return sense_of(house, saying, True)[1]


def are_values(value):
    """Whether any value is a dict from letters to COUNTS."""
    return isinstance(value, dict) and all([is_letter(letter) and is_count(value[letter]) for letter in value])


def holds(house, saying, values):
    """Whether the saying holds for these numbers in the place of its letters."""
    check_saying(house, saying)
    if not are_values(values):
        raise InvalidValues(values)
    for letter in free_letters(saying):
        if letter not in values:
            raise MissingLetter(letter)
    letters, value = sense_of(house, saying, True)
    if letters == "mn":
        return value.has(values["n"], values["m"])
    return value if letters == "" else value.has(values[letters])


def first_for(house, saying):
    """The least number, or tuple (n, m), for which the saying holds; () where it holds without; None without one."""
    check_saying(house, saying)
    letters, value = sense_of(house, saying, True)
    if letters == "mn":
        return value.first()
    if letters == "":
        return () if value else None
    return value.least()


def witness(house, saying):
    """The least number that shows that a closed "some" holds, or that an "all" does not; None without one."""
    check_saying(house, saying)
    free = free_letters(saying)
    if free != "":
        raise OpenSaying(free)
    if saying[0] not in ("some", "all"):
        return None
    letters, value = sense_of(house, saying[2], saying[0] == "some")
    if letters == "":
        return 0 if value else None
    return value.least()


def check_other(house, other):
    """InvalidSaying unless the other one is a saying of the house."""
    if not is_saying(house, other):
        raise InvalidSaying(other)


def raised_both(house, saying, other):
    """The values of both meanings, as ones of the same letters."""
    one, two = sense_of(house, saying, True), sense_of(house, other, True)
    letters = letters_together(one[0], two[0])
    return (raised_to(letters, one), raised_to(letters, two))


def are_alike(house, saying, other):
    """Whether both sayings hold for the same numbers."""
    check_saying(house, saying)
    check_other(house, other)
    one, two = raised_both(house, saying, other)
    return one == two


def follows(house, saying, other):
    """Whether the other saying holds for all numbers for which the first one does."""
    check_saying(house, saying)
    check_other(house, other)
    one, two = raised_both(house, saying, other)
    if isinstance(one, bool):
        return two or not one
    return one.is_within(two)

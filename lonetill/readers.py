"""Readers: places, letters that change a number, rows that lead from place to place, and goods."""

from lonetill.basics import is_count, is_integer, is_list
from lonetill.checks import check_many, check_place
from lonetill.errors import InvalidChanges, InvalidGoods, InvalidLetter, InvalidPlaces, InvalidRows, InvalidWord
from lonetill.errors import TooMany
from lonetill.houses import House
from lonetill.lines import Line

MOST_PLACES = 16
MOST_CHANGES = 3
MOST_LETTERS = 40
SMALL = "abcdefghijklmnopqrstuvwxyz"
GOODS = ("any", "empty", "some")


def is_small_letter(value):
    """Whether any value is one small letter."""
    return isinstance(value, str) and len(value) == 1 and value in SMALL


def are_changes(value):
    """Whether any value is a dict from 1 to 3 small letters to changes."""
    if not isinstance(value, dict) or not 1 <= len(value) <= MOST_CHANGES:
        return False
    return all([is_small_letter(letter) and is_integer(value[letter]) and -1 <= value[letter] <= 1 for letter in value])


def is_place_of(places, value):
    """Whether any value is one of so many places."""
    return is_count(value) and value < places


def is_row(places, changes, value):
    """Whether any value is a row of so many places and these letters."""
    if not isinstance(value, tuple) or len(value) != 3:
        return False
    place, letter, goal = value
    return is_place_of(places, place) and is_small_letter(letter) and letter in changes and is_place_of(places, goal)


def check_rows(places, changes, rows):
    """InvalidRows unless it is a list of rows, at most one of a place and a letter."""
    if not is_list(rows):
        raise InvalidRows(None)
    seen = {}
    for position, row in enumerate(rows):
        if not is_row(places, changes, row) or (row[0], row[1]) in seen:
            raise InvalidRows(position)
        seen[(row[0], row[1])] = True


def are_goods(places, value):
    """Whether any value is a dict from some of so many places to words."""
    if not isinstance(value, dict):
        return False
    return all([is_place_of(places, place) and isinstance(value[place], str) and value[place] in GOODS
                for place in value])


class Reader:
    """Places, letters with changes, rows and goods; it never changes."""

    def __init__(self, places, changes, rows, goods):
        if not is_integer(places) or not 1 <= places <= MOST_PLACES:
            raise InvalidPlaces(places)
        if not are_changes(changes):
            raise InvalidChanges(changes)
        check_rows(places, changes, rows)
        if not are_goods(places, goods):
            raise InvalidGoods(goods)
        self._places = places
        self._changes = {letter: changes[letter] for letter in sorted(changes)}
        self._goals = {(place, letter): goal for place, letter, goal in sorted(rows)}
        self._goods = {place: goods[place] for place in sorted(goods)}

    @property
    def places(self):
        """How many places it has."""
        return self._places

    @property
    def letters(self):
        """Its letters, a sorted string."""
        return "".join(list(self._changes))

    def changes(self):
        """The dict from its letters to their changes."""
        return dict(self._changes)

    def rows(self):
        """The sorted list of its rows."""
        return [(place, letter, goal) for (place, letter), goal in self._goals.items()]

    def goods(self):
        """The dict from the places that have one to their words."""
        return dict(self._goods)

    def goal_of(self, place, letter):
        """The goal of the place's row with this letter; None without one."""
        check_place(self, place)
        if not is_small_letter(letter) or letter not in self._changes:
            raise InvalidLetter(letter)
        return self._goals.get((place, letter))

    def __eq__(self, other):
        if not isinstance(other, Reader):
            return NotImplemented
        if self._places != other._places or self._changes != other._changes:
            return False
        return self._goals == other._goals and self._goods == other._goods


def check_word(reader, word):
    """InvalidWord unless it is a word of the reader."""
    if not is_word(reader, word):
        raise InvalidWord(word)


def is_word(reader, value):
    """Whether any value is a string of letters of the reader."""
    return isinstance(value, str) and all([letter in reader.letters for letter in value])


def as_house(reader):
    """The House of as many places with a plain deed for each row, each deed once, sorted."""
    changes = reader.changes()
    deeds = [(place, changes[letter], goal, "any") for place, letter, goal in reader.rows()]
    return House(reader.places, sorted(set(deeds)))


def way_of(reader, place, word):
    """The tuple (goal, need, gain) of a word read from the place; None if it can't be read from any number."""
    changes = reader.changes()
    need, gain = 0, 0
    for letter in word:
        place = reader.goal_of(place, letter)
        if place is None:
            return None
        gain = gain + changes[letter]
        need = max(need, 0 - gain)
    return (place, need, gain)


def is_good(reader, place, number):
    """Whether the stand is good."""
    good = reader.goods().get(place)
    return good == "any" or (good == "empty" and number == 0) or (good == "some" and number > 0)


def behind_word(reader, place, start, word):
    """The stand behind the word, read from the stand (place, start); None if it leads nowhere."""
    way = way_of(reader, place, word)
    if way is None or start < way[1]:
        return None
    return (way[0], start + way[2])


def is_taken(reader, place, start, word):
    """Whether the word is taken from the stand (place, start)."""
    stand = behind_word(reader, place, start, word)
    return stand is not None and is_good(reader, stand[0], stand[1])


def stand_behind(reader, place, start, word):
    """The stand behind the word, read from the stand (place, start); None if it leads nowhere."""
    check_place(reader, place)
    check_many(start)
    check_word(reader, word)
    return behind_word(reader, place, start, word)


def takes(reader, place, start, word):
    """Whether the word is taken from the stand (place, start)."""
    check_place(reader, place)
    check_many(start)
    check_word(reader, word)
    return is_taken(reader, place, start, word)


def starts_of(reader, place, word):
    """The Line of the numbers at the place from which the word is taken."""
    check_place(reader, place)
    check_word(reader, word)
    way = way_of(reader, place, word)
    good = None if way is None else reader.goods().get(way[0])
    if good is None:
        return Line()
    _, need, gain = way
    if good == "empty":
        return Line.of([0 - gain]) if 0 - gain >= need else Line()
    return Line([(need if good == "any" else max(need, 1 - gain), None, 1, [0])])


def steps_of(reader):
    """For each place the list of the goals and changes of its rows."""
    changes = reader.changes()
    out = [[] for _ in range(reader.places)]
    for place, letter, goal in reader.rows():
        out[place].append((goal, changes[letter]))
    return out


def behind_letters(steps, stands):
    """The dict from stands to how many ways lead to them: one letter more than those of a dict."""
    out = {}
    for (place, number), many in stands.items():
        for goal, change in steps[place]:
            if number + change >= 0:
                out[(goal, number + change)] = out.get((goal, number + change), 0) + many
    return out


def many_words(reader, place, start, many):
    """How many words of just so many letters are taken from the stand (place, start)."""
    check_place(reader, place)
    check_many(start)
    check_many(many)
    if many > MOST_LETTERS:
        raise TooMany("many", MOST_LETTERS)
    stands, steps = {(place, start): 1}, steps_of(reader)
    for _ in range(many):
        stands = behind_letters(steps, stands)
    return sum([stands[stand] for stand in stands if is_good(reader, stand[0], stand[1])])

"""Things read from their written forms."""

from lonetill.courses import MOST_LISTS
from lonetill.errors import InvalidText
from lonetill.houses import MOST_DEEDS, MOST_PLACES, House, is_deed
from lonetill.lines import line_of_rows
from lonetill.readers import GOODS, MOST_CHANGES, Reader, is_small_letter
from lonetill.sayings import MOST_DEPTH, is_letter
from lonetill.spelling import below_of, is_count_word, is_integer_word, leads_of, stretch_of
from lonetill.stretches import rows_of

MOST_STRETCHES = 400
CHANGES = ("-1", "0", "1")


class Scan:
    """The lines of a text, read one behind another."""

    def __init__(self, text):
        pieces = text.split("\n")
        # What stands behind the last line feed is no line, so no form has it.
        rest = pieces.pop()
        self._lines = [piece.split(" ") for piece in pieces] + ([[]] if rest != "" else [])
        self._next = 0

    def is_done(self):
        """Whether no line is left."""
        return self._next == len(self._lines)

    def words(self):
        """The words of the next line; none if no line is left."""
        return [] if self.is_done() else self._lines[self._next]

    def number(self):
        """The number of the next line."""
        return self._next + 1

    def pass_line(self):
        """Goes on to the line behind the next one."""
        self._next += 1


def check_right(scan, is_right):
    """InvalidText with the next line unless it is right; else goes on to the one behind."""
    if not is_right:
        raise InvalidText(scan.number())
    scan.pass_line()


def is_below(word, many):
    """Whether the word is a COUNT below so many."""
    return is_count_word(word) and int(word) < many


def places_in(scan):
    """How many places the next line tells behind its first word."""
    words = scan.words()
    check_right(scan, len(words) == 2 and is_below(words[1], MOST_PLACES + 1) and words[1] != "0")
    return int(words[1])


def deed_of(words, places):
    """The deed of the words of a line, of so many places; None if it is none."""
    if len(words) != 5 or words[0] != "deed" or not all([is_integer_word(word) for word in words[1:4]]):
        return None
    deed = (int(words[1]), int(words[2]), int(words[3]), words[4])
    return deed if is_deed(deed, places) else None


def house_in(scan):
    """The House that begins with the next line."""
    places = places_in(scan)
    deeds = []
    while not scan.is_done():
        deed = deed_of(scan.words(), places)
        check_right(scan, deed is not None and deed not in deeds and len(deeds) < MOST_DEEDS)
        deeds.append(deed)
    return House(places, deeds)


def stretch_in(scan):
    """The stretch that the next line tells."""
    words = scan.words()
    stretch = stretch_of(words[1:]) if words[:1] == ["stretch"] else None
    check_right(scan, stretch is not None)
    return stretch


def line_in(scan):
    """The Line that begins with the next line."""
    check_right(scan, scan.words() == ["line"])
    stretches = []
    while not scan.is_done() and len(stretches) < MOST_STRETCHES:
        stretches.append(stretch_in(scan))
    return line_of_rows(rows_of(stretches))


def going_in(scan):
    """The going that begins with the next line."""
    check_right(scan, scan.words() == ["going"])
    going = []
    # The lists that are open, the innermost one last, and how often the laps within are done.
    lists, often = [going], []
    while len(lists) > 1 or not scan.is_done():
        words = scan.words()
        word = words[0] if len(words) > 0 else ""
        if word == "end":
            check_right(scan, len(words) == 1 and len(lists) > 1)
            items = lists.pop()
            lists[-1].append((items, often.pop()))
        else:
            is_right = len(words) == 2 and word in ("do", "laps") and is_count_word(words[1])
            check_right(scan, is_right and (word == "do" or len(lists) < MOST_LISTS))
            if word == "do":
                lists[-1].append(int(words[1]))
            else:
                lists.append([])
                often.append(int(words[1]))
    return going


def changes_in(scan):
    """The changes that the next lines tell, at least one of them."""
    out = {}
    while len(out) == 0 or scan.words()[:1] == ["letter"]:
        words = scan.words()
        is_right = len(words) == 3 and words[0] == "letter" and is_small_letter(words[1]) and words[2] in CHANGES
        check_right(scan, is_right and all([letter < words[1] for letter in out]) and len(out) < MOST_CHANGES)
        out[words[1]] = int(words[2])
    return out


def rows_in(scan, places, changes):
    """The rows that the next lines tell."""
    out = []
    last = (-1, "")
    while scan.words()[:1] == ["row"]:
        words = scan.words()
        check_right(scan, len(words) == 4 and is_below(words[1], places) and words[2] in changes
                    and is_below(words[3], places) and (int(words[1]), words[2]) > last)
        last = (int(words[1]), words[2])
        out.append((int(words[1]), words[2], int(words[3])))
    return out


def goods_in(scan, places):
    """The goods that the next lines tell."""
    out = {}
    last = -1
    while scan.words()[:1] == ["good"]:
        words = scan.words()
        check_right(scan, len(words) == 3 and is_below(words[1], places) and int(words[1]) > last and words[2] in GOODS)
        last = int(words[1])
        out[last] = words[2]
    return out


def reader_in(scan):
    """The Reader that begins with the next line."""
    places = places_in(scan)
    changes = changes_in(scan)
    rows = rows_in(scan, places, changes)
    return Reader(places, changes, rows, goods_in(scan, places))


def leaf_in(scan):
    """The leaf "in" that begins with the next line."""
    words = scan.words()
    check_right(scan, len(words) == 3 and is_letter(words[1]) and is_below(words[2], MOST_STRETCHES + 1))
    stretches = [stretch_in(scan) for _ in range(int(words[2]))]
    return ("in", words[1], line_of_rows(rows_of(stretches)))


def saying_in(scan, depth):
    """The saying that begins with the next line, so deep at most; 0 stands for a leaf behind a not of depth 1."""
    words = scan.words()
    word = words[0] if len(words) > 0 else ""
    if word in ("leads", "below"):
        leaf = leads_of(words[1:]) if word == "leads" else below_of(words[1:])
        check_right(scan, leaf is not None)
        return leaf
    if word == "in":
        return leaf_in(scan)
    if word == "not":
        check_right(scan, len(words) == 1 and depth >= 1)
        return ("not", saying_in(scan, depth - 1))
    if word in ("some", "all"):
        check_right(scan, len(words) == 2 and is_letter(words[1]) and depth >= 2)
        return (word, words[1], saying_in(scan, depth - 1))
    check_right(scan, words == [word] and word in ("and", "or") and depth >= 2)
    first = saying_in(scan, depth - 1)
    return (word, first, saying_in(scan, depth - 1))


def thing_in(scan):
    """The thing that begins with the next line."""
    word = scan.words()[:1]
    if word == ["house"]:
        return house_in(scan)
    if word == ["line"]:
        return line_in(scan)
    if word == ["going"]:
        return going_in(scan)
    return reader_in(scan) if word == ["reader"] else saying_in(scan, MOST_DEPTH)


def read(text):
    """The thing that has this written form."""
    if not isinstance(text, str):
        raise InvalidText(0)
    scan = Scan(text)
    thing = thing_in(scan)
    if not scan.is_done():
        raise InvalidText(scan.number())
    return thing

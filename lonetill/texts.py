"""The written forms of things: strings of lines."""

from lonetill.courses import MOST_LISTS, has_going_form
from lonetill.errors import InvalidThing
from lonetill.houses import House
from lonetill.lines import Line
from lonetill.readers import Reader
from lonetill.sayings import MOST_DEPTH, MOST_PLACES, has_form, parts_of
from lonetill.spelling import word_of_end


def line_of_words(words):
    """A line of the words, numbers among them, parted by one blank."""
    return " ".join([str(word) for word in words])


def stretch_lines(line):
    """The lines of some stretches that tell the Line."""
    return [line_of_words(["stretch", word_of_end(low), word_of_end(high), period] + rests)
            for low, high, period, rests in line.stretches()]


def house_lines(house):
    """The lines of a House."""
    return [f"house {house.places}"] + [line_of_words(["deed"] + list(deed)) for deed in house.deeds()]


def reader_lines(reader):
    """The lines of a Reader."""
    out = [f"reader {reader.places}"]
    out = out + [f"letter {letter} {change}" for letter, change in reader.changes().items()]
    out = out + [line_of_words(["row"] + list(row)) for row in reader.rows()]
    return out + [f"good {place} {word}" for place, word in reader.goods().items()]


def item_lines(items):
    """The lines of the items of a going."""
    out = []
    for item in items:
        if isinstance(item, tuple):
            out.append(f"laps {item[1]}")
            out.extend(item_lines(item[0]))
            out.append("end")
        else:
            out.append(f"do {item}")
    return out


def saying_lines(saying):
    """The lines of a saying."""
    if saying[0] in ("leads", "below"):
        return [line_of_words(saying)]
    if saying[0] == "in":
        stretches = stretch_lines(saying[2])
        return [line_of_words(["in", saying[1], len(stretches)])] + stretches
    out = [f"{saying[0]} {saying[1]}" if saying[0] in ("some", "all") else saying[0]]
    for part in parts_of(saying):
        out.extend(saying_lines(part))
    return out


def lines_of(thing):
    """The lines of a thing; None if it is nothing that has a written form."""
    if isinstance(thing, House):
        return house_lines(thing)
    if isinstance(thing, Line):
        return ["line"] + stretch_lines(thing)
    if isinstance(thing, Reader):
        return reader_lines(thing)
    if has_form(MOST_PLACES, thing, MOST_DEPTH):
        return saying_lines(thing)
    return ["going"] + item_lines(thing) if has_going_form(None, thing, MOST_LISTS) else None


def written(thing):
    """The written form of a House, a Line, a Reader, a going by its form or a saying."""
    lines = lines_of(thing)
    if lines is None:
        raise InvalidThing(thing)
    return "".join([f"{line}\n" for line in lines])

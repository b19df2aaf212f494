"""Claims, their contraries, and papers that show that they are true."""

from lonetill.basics import is_count
from lonetill.copies import copied
from lonetill.empties import leads
from lonetill.ends import ends
from lonetill.closed import bars
from lonetill.errors import InvalidClaim, LimitError, StateError, TillError
from lonetill.goings import behind, is_going
from lonetill.houses import House
from lonetill.least import least_price
from lonetill.meanings import meaning
from lonetill.prices import cheapest_going, price_of
from lonetill.readers import Reader
from lonetill.roofs import least_roof, roof_ends
from lonetill.shown import is_shown, shown
from lonetill.under import low_going, roof_bars, roof_of
from lonetill.ways import a_going
from lonetill.words import alike_lines, is_alike_lines, is_parting, parting_word
from lonetill.worths import least_worths, tells_dear

WORDS = (("leads", "shut"), ("cheap", "dear"), ("under", "over"), ("unlike", "alike"), ("holds", "fails"))
LENGTHS = {"leads": 6, "cheap": 8, "under": 7, "unlike": 6, "holds": 3}


def words():
    """The list of the tuples of the two words of each line of the table."""
    return list(WORDS)


def line_of(word):
    """The tuple of the two words of a word's line; None if it is no word of the table."""
    for line in WORDS:
        if word in line:
            return line
    return None


def leads_holds(parts):
    """Whether "leads" is true of its parts."""
    house, place, start, goal, end = parts
    return leads(house, place, start, goal, end)


def cheap_holds(parts):
    """Whether "cheap" is true of its parts; None if the last one is no COUNT."""
    house, prices, place, start, goal, end, many = parts
    price = least_price(house, prices, place, start, goal, end)
    return (price is not None and price <= many) if is_count(many) else None


def under_holds(parts):
    """Whether "under" is true of its parts; None if the last one is no COUNT."""
    house, place, start, goal, end, roof = parts
    least = least_roof(house, place, start, goal, end)
    return (least is not None and least <= roof) if is_count(roof) else None


def unlike_holds(parts):
    """Whether "unlike" is true of its parts."""
    one, place, other, goal, start = parts
    return parting_word(one, place, other, goal, start) is not None


def saying_holds(parts):
    """Whether "holds" is true of its parts; None if the saying is not closed."""
    house, saying = parts
    told = meaning(house, saying)
    return told if isinstance(told, bool) else None


JUDGES = {"leads": leads_holds, "cheap": cheap_holds, "under": under_holds, "unlike": unlike_holds,
          "holds": saying_holds}


def are_of_kind(word, parts):
    """Whether the parts that are Houses or Readers in the table are such."""
    if word == "unlike":
        return isinstance(parts[0], Reader) and isinstance(parts[2], Reader)
    return isinstance(parts[0], House)


def truth_of(value):
    """Whether any value that is a claim is true; None for one that is no claim."""
    if not isinstance(value, tuple) or len(value) == 0 or not isinstance(value[0], str):
        return None
    line = line_of(value[0])
    if line is None or len(value) != LENGTHS[line[0]] or not are_of_kind(line[0], value[1:]):
        return None
    judge = JUDGES[line[0]]
    try:
        is_first = judge(value[1:])
    except (TillError, StateError, LimitError):
        return None
    return None if is_first is None else is_first == (value[0] == line[0])


def is_claim(value):
    """Whether any value is a claim."""
    return truth_of(value) is not None


def checked_truth(claim):
    """Whether the claim is true: InvalidClaim unless it is one."""
    truth = truth_of(claim)
    if truth is None:
        raise InvalidClaim(claim)
    return truth


def is_true(claim):
    """Whether the claim is true."""
    return checked_truth(claim)


def contrary_of(claim):
    """The contrary of a claim, its parts as they are."""
    first, second = line_of(claim[0])
    return (second if claim[0] == first else first,) + claim[1:]


def contrary(claim):
    """The contrary claim, with new lists in it."""
    checked_truth(claim)
    return copied(contrary_of(claim))


def going_paper(claim):
    """The going that shows a true claim "leads", "cheap" or "under"."""
    if claim[0] == "leads":
        _, house, place, start, goal, end = claim
        return a_going(house, place, start, goal, end)
    if claim[0] == "cheap":
        _, house, prices, place, start, goal, end, _ = claim
        return cheapest_going(house, prices, place, start, goal, end)
    _, house, place, start, goal, end, _ = claim
    return low_going(house, place, start, goal, end)


def barring_paper(claim):
    """The table that shows a true claim "shut", "dear" or "over"."""
    if claim[0] == "shut":
        return ends(claim[1], claim[2], claim[3])
    if claim[0] == "dear":
        return least_worths(claim[1], claim[2], claim[3], claim[4])
    _, house, place, start, _, _, roof = claim
    return () if start > roof else roof_ends(house, place, start, roof)


def paper_of(claim):
    """A paper of the claim; None if it is not true."""
    if not checked_truth(claim):
        return None
    if claim[0] in ("leads", "cheap", "under"):
        return going_paper(claim)
    if claim[0] in ("shut", "dear", "over"):
        return barring_paper(claim)
    if claim[0] in ("holds", "fails"):
        return shown(claim[1], claim[2])
    _, one, place, other, goal, start = claim
    if claim[0] == "unlike":
        return parting_word(one, place, other, goal, start)
    return alike_lines(one, place, other, goal, start)


def leads_by(house, stand, behind_it, value):
    """Whether any value is a going that leads from the one stand to the other one."""
    place, start = stand
    return is_going(house, place, start, value) and behind(house, place, start, value) == behind_it


def is_going_paper(claim, value):
    """Whether any value is a going that shows the claim "leads", "cheap" or "under"."""
    if claim[0] == "cheap":
        _, house, prices, place, start, goal, end, many = claim
        return leads_by(house, (place, start), (goal, end), value) and price_of(house, prices, value) <= many
    _, house, place, start, goal, end = claim[:6]
    if not leads_by(house, (place, start), (goal, end), value):
        return False
    return claim[0] == "leads" or roof_of(house, place, start, value) <= claim[6]


def is_barring_paper(claim, value):
    """Whether any value is a table that shows the claim "shut", "dear" or "over"."""
    if claim[0] == "dear":
        _, house, prices, place, start, goal, end, many = claim
        return tells_dear(house, prices, place, start, goal, end, many + 1, value)
    _, house, place, start, goal, end = claim[:6]
    if claim[0] == "shut":
        return bars(house, place, start, goal, end, value)
    if start > claim[6]:
        return isinstance(value, tuple) and len(value) == 0
    return roof_bars(house, place, start, goal, end, claim[6], value)


def shows(claim, value):
    """Whether any value is a paper of a claim."""
    if claim[0] in ("leads", "cheap", "under"):
        return is_going_paper(claim, value)
    if claim[0] in ("shut", "dear", "over"):
        return is_barring_paper(claim, value)
    if claim[0] in ("holds", "fails"):
        return is_shown(claim[1], claim[2], value) and value[0] == (claim[0] == "holds")
    _, one, place, other, goal, start = claim
    if claim[0] == "unlike":
        return is_parting(one, place, other, goal, start, value)
    return is_alike_lines(one, place, other, goal, start, value)


def is_paper_of(claim, value):
    """Whether any value is a paper of the claim."""
    checked_truth(claim)
    return shows(claim, value)

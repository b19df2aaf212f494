"""What a desk answers to commands that are no deeds."""

from lonetill.checks import check_ways
from lonetill.empties import leads
from lonetill.ends import ends, starts
from lonetill.gains import least_start
from lonetill.least import least_price
from lonetill.ledger import check_label, house_under, told_states
from lonetill.meanings import first_for
from lonetill.roofs import least_roof
from lonetill.sayings import free_letters
from lonetill.scripts import saying_of_words


def told_number(number):
    """A number, or none, in words."""
    return "none" if number is None else str(number)


def told_truth(truth):
    """Whether something is so, in words."""
    return "yes" if truth else "no"


def numbers_of(words):
    """The INTEGERS of some words."""
    return [int(word) for word in words]


def answer_state(page, words):
    """The state of a label."""
    check_label(page, words[0])
    return page.states[words[0]]


def answer_states(page, words):
    """All labels with their states; there are no words."""
    return told_states(page.states)


def answer_claimed(page, words):
    """The claim of a label in words."""
    check_label(page, words[0])
    return " ".join(page.claims[words[0]])


def answer_deeds(page, words):
    """The deeds of a house with their prices."""
    house, prices = house_under(page, words[0])
    told = [" ".join([str(part) for part in deed + (price,)]) for deed, price in zip(house.deeds(), prices)]
    return ", ".join(told) if len(told) > 0 else "-"


def answer_names(page, words):
    """The names of the kept houses; there are no words."""
    return " ".join(sorted(page.houses)) if len(page.houses) > 0 else "-"


def answer_leads(page, words):
    """Whether a stand leads to another one."""
    house, _ = house_under(page, words[0])
    place, start, goal, end = numbers_of(words[1:])
    return told_truth(leads(house, place, start, goal, end))


def answer_cost(page, words):
    """The least price from a stand to another one."""
    house, prices = house_under(page, words[0])
    place, start, goal, end = numbers_of(words[1:])
    return told_number(least_price(house, prices, place, start, goal, end))


def answer_roof(page, words):
    """The least roof of two stands."""
    house, _ = house_under(page, words[0])
    place, start, goal, end = numbers_of(words[1:])
    return told_number(least_roof(house, place, start, goal, end))


def answer_gain(page, words):
    """The least start of a gain."""
    house, _ = house_under(page, words[0])
    place, goal, number = numbers_of(words[1:])
    return told_number(least_start(house, place, goal, number))


def answer_first(page, words):
    """The least number at a place that leads to a stand."""
    house, _ = house_under(page, words[0])
    place, goal, end = numbers_of(words[1:])
    check_ways(house, place, goal)
    return told_number(starts(house, goal, end)[place].least())


def ends_told(page, words):
    """The Line of the numbers with which a stand comes to a goal."""
    house, _ = house_under(page, words[0])
    place, start, goal = numbers_of(words[1:])
    check_ways(house, place, goal)
    return ends(house, place, start)[goal]


def answer_least(page, words):
    """The least number with which a stand comes to a goal."""
    return told_number(ends_told(page, words).least())


def answer_most(page, words):
    """The greatest number with which a stand comes to a goal."""
    line = ends_told(page, words)
    if not line.is_empty and line.greatest() is None:
        return "endless"
    return told_number(line.greatest())


def answer_ask(page, words):
    """Whether a saying holds, or the least numbers that make it true."""
    house, _ = house_under(page, words[0])
    saying = saying_of_words(words[1:])
    found = first_for(house, saying)
    if free_letters(saying) == "":
        return told_truth(found is not None)
    if isinstance(found, tuple):
        return f"{found[0]} {found[1]}"
    return told_number(found)


ANSWERS = {"state": answer_state, "states": answer_states, "claimed": answer_claimed, "deeds": answer_deeds,
           "names": answer_names, "leads": answer_leads, "cost": answer_cost, "roof": answer_roof,
           "gain": answer_gain, "first": answer_first, "least": answer_least, "most": answer_most, "ask": answer_ask}


def answered(page, words):
    """The answer to a command that is no deed, told by its words."""
    answer = ANSWERS[words[0]]
    return answer(page, words[1:])

"""What a desk keeps at a time, and what its deeds make of it."""

from lonetill.claims import truth_of
from lonetill.errors import InvalidClaim, InvalidPosition, LabelTaken, NameTaken, TooMany, UnknownLabel, UnknownName
from lonetill.houses import House
from lonetill.scripts import saying_of_words

MOST_HOUSES = 8
MOST_LABELS = 12


class Page:
    """Houses by their names, with prices; claims by their labels, in words; the states of these. It never changes."""

    def __init__(self, houses, claims, states):
        self.houses = houses
        self.claims = claims
        self.states = states


def house_under(page, name):
    """The tuple of the House kept under the name and its prices, a tuple: UnknownName without one."""
    if name not in page.houses:
        raise UnknownName(name)
    return page.houses[name]


def check_label(page, label):
    """UnknownLabel unless a claim is noted under any such value."""
    if not isinstance(label, str) or label not in page.claims:
        raise UnknownLabel(label)


def check_new_name(page, name):
    """NameTaken if a house is kept under the name."""
    if name in page.houses:
        raise NameTaken(name)


def claim_in_words(page, words):
    """The claim of the words behind a label, as a tuple; None if no house is kept under its name."""
    if words[1] not in page.houses:
        return None
    house, prices = page.houses[words[1]]
    if words[0] in ("holds", "fails"):
        return (words[0], house, saying_of_words(words[2:]))
    numbers = tuple([int(word) for word in words[2:]])
    if words[0] in ("cheap", "dear"):
        return (words[0], house, list(prices)) + numbers
    return (words[0], house) + numbers


def state_of(page, words):
    """The state of a claim in words."""
    truth = truth_of(claim_in_words(page, words))
    if truth is None:
        return "gone"
    return "true" if truth else "false"


def with_states(houses, claims, states, name):
    """The Page of these houses and claims: just the states of the claims of one house are looked at anew."""
    page = Page(houses, claims, {})
    now = {label: state_of(page, words) if words[1] == name or label not in states else states[label]
           for label, words in claims.items()}
    return Page(houses, claims, now)


def with_house(page, name, house, prices):
    """The Page with this house, and its prices, under the name."""
    return with_states({**page.houses, name: (house, tuple(prices))}, page.claims, page.states, name)


def with_new_house(page, name, house, prices):
    """The Page with one house more: TooMany if there would be too many."""
    if len(page.houses) == MOST_HOUSES:
        raise TooMany("houses", MOST_HOUSES)
    return with_house(page, name, house, prices)


def do_house(page, words):
    """A house without deeds."""
    check_new_name(page, words[0])
    return with_new_house(page, words[0], House(int(words[1]), []), ())


def do_put(page, words):
    """A deed behind all deeds of a house."""
    name, place, change, goal, when, price = words
    house, prices = house_under(page, name)
    house = house.with_deed((int(place), int(change), int(goal), when))
    return with_house(page, name, house, prices + (int(price),))


def do_take(page, words):
    """A deed goes out of a house."""
    name, position = words[0], int(words[1])
    house, prices = house_under(page, name)
    house = house.without_deed(position)
    return with_house(page, name, house, prices[:position] + prices[position + 1:])


def do_price(page, words):
    """Another price for a deed."""
    name, position, price = words[0], int(words[1]), int(words[2])
    house, prices = house_under(page, name)
    if position >= len(prices):
        raise InvalidPosition(position)
    return with_house(page, name, house, prices[:position] + (price,) + prices[position + 1:])


def do_copy(page, words):
    """The same house under a new name."""
    check_new_name(page, words[0])
    house, prices = house_under(page, words[1])
    return with_new_house(page, words[0], house, prices)


def do_plain(page, words):
    """A house without its "empty" deeds under a new name."""
    check_new_name(page, words[0])
    house, prices = house_under(page, words[1])
    left = [price for deed, price in zip(house.deeds(), prices) if deed[3] == "any"]
    return with_new_house(page, words[0], house.plain(), left)


def do_turn(page, words):
    """A house with all deeds led back under a new name."""
    check_new_name(page, words[0])
    house, prices = house_under(page, words[1])
    return with_new_house(page, words[0], house.turned(), prices)


def do_beside(page, words):
    """Two houses beside one another under a new name."""
    check_new_name(page, words[0])
    house, prices = house_under(page, words[1])
    other, others = house_under(page, words[2])
    return with_new_house(page, words[0], house.beside(other), prices + others)


def do_drop(page, words):
    """A house is no longer kept."""
    house_under(page, words[0])
    houses = {name: page.houses[name] for name in page.houses if name != words[0]}
    return with_states(houses, page.claims, page.states, words[0])


def do_claim(page, words):
    """A claim is noted."""
    label, told = words[0], words[1:]
    if label in page.claims:
        raise LabelTaken(label)
    house_under(page, told[1])
    claim = claim_in_words(page, told)
    if truth_of(claim) is None:
        raise InvalidClaim(claim)
    if len(page.claims) == MOST_LABELS:
        raise TooMany("labels", MOST_LABELS)
    claims = {**page.claims, label: told}
    return with_states(page.houses, {key: claims[key] for key in sorted(claims)}, page.states, None)


def do_forget(page, words):
    """A claim is no longer noted."""
    check_label(page, words[0])
    claims = {label: page.claims[label] for label in page.claims if label != words[0]}
    return Page(page.houses, claims, {label: page.states[label] for label in claims})


DEEDS = {"house": do_house, "put": do_put, "take": do_take, "price": do_price, "copy": do_copy, "plain": do_plain,
         "turn": do_turn, "beside": do_beside, "drop": do_drop, "claim": do_claim, "forget": do_forget}


def page_behind(page, words):
    """The Page behind a deed, told by its words."""
    deed = DEEDS[words[0]]
    return deed(page, words[1:])


def told_states(states):
    """Labels with states, sorted, as an answer tells them."""
    told = ", ".join([f"{label} {states[label]}" for label in sorted(states)])
    return "-" if told == "" else told


def changes_between(before, behind):
    """The answer to a deed: the labels whose states it changed, with the states now."""
    return told_states({label: state for label, state in behind.states.items() if before.states.get(label) != state})

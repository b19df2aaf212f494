"""Readers made by dice, and words read letter by letter."""

from lonetill.readers import Reader


def random_reader(dice, places, changes, full=0.75):
    """A reader of so many places."""
    rows = [(place, letter, dice.randrange(places)) for place in range(places) for letter in changes if dice.random() < full]
    dice.shuffle(rows)
    return Reader(places, changes, rows, {place: dice.choice(["any", "empty", "some"]) for place in range(places) if dice.random() < 0.6})


def random_changes(dice):
    """From one to three letters with changes."""
    return {letter: dice.choice([-1, -1, 0, 1, 1]) for letter in dice.sample("abcxyz", dice.randint(1, 3))}


def after_letter(reader, stand, letter):
    """The stand behind a letter; None if it can't be read, or nothing is read any more."""
    if stand is None:
        return None
    goals = {(place, sign): goal for place, sign, goal in reader.rows()}
    number = stand[1] + reader.changes()[letter]
    return None if number < 0 or (stand[0], letter) not in goals else (goals[stand[0], letter], number)


def after_word(reader, stand, word):
    """The stand behind a word, or None."""
    for letter in word:
        stand = after_letter(reader, stand, letter)
    return stand


def good(reader, stand):
    """Whether a stand (or None) is good."""
    if stand is None or stand[0] not in reader.goods():
        return False
    return {"any": True, "empty": stand[1] == 0, "some": stand[1] > 0}[reader.goods()[stand[0]]]


def first_word(one, stand, other, behind, test, most):
    """The first one of the shortest words behind which the test holds of what is good, no number above most; or None."""
    row = [(stand, behind, "")]
    seen = {(stand, behind)}
    for left, right, word in row:
        if test(good(one, left), good(other, right)):
            return word
        for letter in one.letters:
            both = (after_letter(one, left, letter), after_letter(other, right, letter))
            if both != (None, None) and both not in seen and max(now[1] for now in both if now is not None) <= most:
                seen.add(both)
                row.append((*both, word + letter))
    return None

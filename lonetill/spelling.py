"""How INTEGERS, ends and leaves of sayings are written in words."""

from lonetill.sayings import MOST_PLACES, is_letter
from lonetill.stretches import is_stretch

DIGITS = "0123456789"


def is_count_word(word):
    """Whether the word is a COUNT in decimal digits without needless zeros."""
    if word == "" or not all([sign in DIGITS for sign in word]):
        return False
    return word == "0" or word[0] != "0"


def is_integer_word(word):
    """Whether the word is an INTEGER, with a minus ahead of those below 0."""
    if word[:1] == "-":
        return is_count_word(word[1:]) and word != "-0"
    return is_count_word(word)


def is_end_word(word):
    """Whether the word is an INTEGER, or a minus alone for no end."""
    return word == "-" or is_integer_word(word)


def end_of(word):
    """The INTEGER of a word that is an end, or None."""
    return None if word == "-" else int(word)


def word_of_end(number):
    """The word of an INTEGER, or of None."""
    return "-" if number is None else str(number)


def stretch_of(words):
    """The stretch of the words of its ends, its period and its rests; None if they are none."""
    if len(words) < 4 or not is_end_word(words[0]) or not is_end_word(words[1]):
        return None
    if not all([is_count_word(word) for word in words[2:]]):
        return None
    stretch = (end_of(words[0]), end_of(words[1]), int(words[2]), [int(word) for word in words[3:]])
    return stretch if is_stretch(stretch) else None


def leads_of(words):
    """The leaf "leads" of the words behind its own one, of a house with the most places; None if they are none."""
    if len(words) != 4 or not is_letter(words[1]) or not is_letter(words[3]):
        return None
    if not all([is_count_word(word) and int(word) < MOST_PLACES for word in (words[0], words[2])]):
        return None
    return ("leads", int(words[0]), words[1], int(words[2]), words[3])


def below_of(words):
    """The leaf "below" of the words behind its own one; None if they are none."""
    if len(words) != 3 or not is_letter(words[0]) or not is_letter(words[1]) or not is_integer_word(words[2]):
        return None
    return ("below", words[0], words[1], int(words[2]))

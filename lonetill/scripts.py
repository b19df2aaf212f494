"""Commands by their words: what stands behind the first word of each, and sayings told in words."""

from lonetill.lines import Line
from lonetill.sayings import MOST_DEPTH, is_letter
from lonetill.spelling import below_of, is_count_word, is_integer_word, leads_of, stretch_of

MOST_SIGNS = 8
MOST_DIGITS = 30
MOST_PRICE = 1000
SMALL = "abcdefghijklmnopqrstuvwxyz"
SIGNS = "abcdefghijklmnopqrstuvwxyz0123456789"
# What may stand behind the first word: kinds of words, of which a saying, the last one, has several.
SHAPES = {
    "house": ("name", "count"),
    "put": ("name", "count", "change", "count", "when", "price"),
    "take": ("name", "count"),
    "price": ("name", "count", "price"),
    "copy": ("name", "name"),
    "plain": ("name", "name"),
    "turn": ("name", "name"),
    "beside": ("name", "name", "name"),
    "drop": ("name",),
    "claim": ("name", "claim"),
    "forget": ("name",),
    "undo": (),
    "redo": (),
    "state": ("name",),
    "states": (),
    "claimed": ("name",),
    "deeds": ("name",),
    "names": (),
    "leads": ("name", "count", "count", "count", "count"),
    "cost": ("name", "count", "count", "count", "count"),
    "roof": ("name", "count", "count", "count", "count"),
    "gain": ("name", "count", "count", "integer"),
    "first": ("name", "count", "count", "count"),
    "least": ("name", "count", "count", "count"),
    "most": ("name", "count", "count", "count"),
    "ask": ("name", "saying"),
}
# The same of claims, behind the label and the claim's word.
CLAIMS = {
    "leads": ("name", "count", "count", "count", "count"),
    "shut": ("name", "count", "count", "count", "count"),
    "cheap": ("name", "count", "count", "count", "count", "count"),
    "dear": ("name", "count", "count", "count", "count", "count"),
    "under": ("name", "count", "count", "count", "count", "count"),
    "over": ("name", "count", "count", "count", "count", "count"),
    "holds": ("name", "saying"),
    "fails": ("name", "saying"),
}
# How many words a leaf of a saying has.
LEAF_LENGTHS = {"leads": 5, "in": 6, "below": 4}


def is_name_word(word):
    """Whether the word is a name: small letters and digits, not too many, the first one a letter."""
    if not 1 <= len(word) <= MOST_SIGNS or word[0] not in SMALL:
        return False
    return all([sign in SIGNS for sign in word])


def has_few_digits(word):
    """Whether the word has no more digits than are let."""
    return len(word.lstrip("-")) <= MOST_DIGITS


def is_of_kind(kind, word):
    """Whether the word is of the kind."""
    if kind == "name":
        return is_name_word(word)
    if kind == "change":
        return word in ("-1", "0", "1")
    if kind == "when":
        return word in ("any", "empty")
    if not has_few_digits(word):
        return False
    if kind == "integer":
        return is_integer_word(word)
    return is_count_word(word) and (kind == "count" or int(word) <= MOST_PRICE)


def leaf_at(words, at):
    """The tuple of the leaf whose words begin there, and the position behind it; None if there is none."""
    many = LEAF_LENGTHS[words[at]]
    parts = words[at + 1:at + many]
    if not all([has_few_digits(word) for word in parts]):
        return None
    if words[at] == "in":
        stretch = stretch_of(parts[1:]) if len(parts) == 5 and is_letter(parts[0]) else None
        leaf = None if stretch is None else ("in", parts[0], Line([stretch]))
    else:
        leaf = leads_of(parts) if words[at] == "leads" else below_of(parts)
    return None if leaf is None else (leaf, at + many)


def parts_at(words, at, many, depth):
    """The tuple of so many sayings that stand there, and the position behind them; None if there are none."""
    out = []
    for _ in range(many):
        told = saying_at(words, at, depth)
        if told is None:
            return None
        out.append(told[0])
        at = told[1]
    return (tuple(out), at)


def saying_at(words, at, depth):
    """The tuple of the saying whose words begin there, so deep at most, and the position behind it; None without one.

    The depth 0 stands for a leaf behind a not of depth 1.
    """
    word = words[at] if at < len(words) else ""
    if word in LEAF_LENGTHS:
        return leaf_at(words, at)
    if depth < 1 or (word != "not" and depth < 2):
        return None
    if word in ("some", "all"):
        if at + 1 == len(words) or not is_letter(words[at + 1]):
            return None
        told = parts_at(words, at + 2, 1, depth - 1)
        return None if told is None else ((word, words[at + 1]) + told[0], told[1])
    if word not in ("not", "and", "or"):
        return None
    told = parts_at(words, at + 1, 1 if word == "not" else 2, depth - 1)
    return None if told is None else ((word,) + told[0], told[1])


def saying_of_words(words):
    """The saying of just these words; None if they are none."""
    told = saying_at(words, 0, MOST_DEPTH)
    return told[0] if told is not None and told[1] == len(words) else None


def fits_shape(shape, words):
    """Whether the words are of the kinds of a shape, one behind another."""
    if len(shape) > 0 and shape[-1] == "saying":
        known = words[:len(shape) - 1]
        return fits_shape(shape[:-1], known) and saying_of_words(words[len(known):]) is not None
    if len(shape) > 0 and shape[-1] == "claim":
        kinds = CLAIMS.get(words[1]) if len(words) > 1 else None
        return kinds is not None and fits_shape(shape[:-1], words[:1]) and fits_shape(kinds, words[2:])
    return len(words) == len(shape) and all([is_of_kind(kind, word) for kind, word in zip(shape, words)])


def words_of(value):
    """The words of any value that is a command by its words alone; None for others."""
    if not isinstance(value, str):
        return None
    words = value.split(" ")
    shape = SHAPES.get(words[0])
    return words if shape is not None and fits_shape(shape, words[1:]) else None

"""What is a name, a command and a deed of the desk, by the words alone."""

from lonetill.scripts import is_name_word, words_of

DEEDS = ("house", "put", "take", "price", "copy", "plain", "turn", "beside", "drop", "claim", "forget")


def is_name(value):
    """Whether any value is a name."""
    return isinstance(value, str) and is_name_word(value)


def is_command(value):
    """Whether any value is a string that is a command by its words alone."""
    return words_of(value) is not None


def is_deed(value):
    """Whether any value is a deed of the desk."""
    words = words_of(value)
    return words is not None and words[0] in DEEDS

"""All errors of the package: what is wrong is told by their attributes."""


class TillError(ValueError):
    """A value that is not what the document wants there."""


class InvalidNumber(TillError):
    """No INTEGER."""

    def __init__(self, value):
        self.value = value


class InvalidMany(TillError):
    """No COUNT."""

    def __init__(self, value):
        self.value = value


class InvalidPlace(TillError):
    """No place."""

    def __init__(self, value):
        self.value = value


class InvalidLine(TillError):
    """No Line."""

    def __init__(self, value):
        self.value = value


class InvalidGoing(TillError):
    """No going, or none that can be done."""

    def __init__(self, value):
        self.value = value


class InvalidPrices(TillError):
    """No prices of the house."""

    def __init__(self, value):
        self.value = value


class InvalidSaying(TillError):
    """No saying."""

    def __init__(self, value):
        self.value = value


class InvalidBlocks(TillError):
    """No list of blocks."""

    def __init__(self, position):
        self.position = position


class InvalidChanges(TillError):
    """No dict from letters to changes."""

    def __init__(self, value):
        self.value = value


class InvalidClaim(TillError):
    """No claim."""

    def __init__(self, value):
        self.value = value


class InvalidCommand(TillError):
    """No command."""

    def __init__(self, value):
        self.value = value


class InvalidDeed(TillError):
    """No deed, or one that is there already."""

    def __init__(self, value):
        self.value = value


class InvalidDeeds(TillError):
    """No list of unlike deeds."""

    def __init__(self, position):
        self.position = position


class InvalidFamilies(TillError):
    """No list of families."""

    def __init__(self, position):
        self.position = position


class InvalidGoods(TillError):
    """No goods of a reader."""

    def __init__(self, value):
        self.value = value


class InvalidGrid(TillError):
    """No Grid."""

    def __init__(self, value):
        self.value = value


class InvalidGrids(TillError):
    """No list of Grids."""

    def __init__(self, value):
        self.value = value


class InvalidHouse(TillError):
    """No House."""

    def __init__(self, value):
        self.value = value


class InvalidLeast(TillError):
    """No Least."""

    def __init__(self, value):
        self.value = value


class InvalidLetter(TillError):
    """No letter of the reader."""

    def __init__(self, value):
        self.value = value


class InvalidLines(TillError):
    """No list of deeds of a desk."""

    def __init__(self, position):
        self.position = position


class InvalidLots(TillError):
    """No list of Lines."""

    def __init__(self, value):
        self.value = value


class InvalidNumbers(TillError):
    """No list of INTEGERS."""

    def __init__(self, value):
        self.value = value


class InvalidOrder(TillError):
    """No list of all places, each once."""

    def __init__(self, value):
        self.value = value


class InvalidPairs(TillError):
    """No list of unlike pairs."""

    def __init__(self, value):
        self.value = value


class InvalidPaper(TillError):
    """No paper."""

    def __init__(self, value):
        self.value = value


class InvalidPlaces(TillError):
    """No number of places."""

    def __init__(self, value):
        self.value = value


class InvalidPosition(TillError):
    """No position of a deed."""

    def __init__(self, value):
        self.value = value


class InvalidRows(TillError):
    """No list of rows."""

    def __init__(self, position):
        self.position = position


class InvalidStretches(TillError):
    """No list of stretches."""

    def __init__(self, position):
        self.position = position


class InvalidText(TillError):
    """No written form."""

    def __init__(self, line):
        self.line = line


class InvalidThing(TillError):
    """Nothing that has a written form."""

    def __init__(self, value):
        self.value = value


class InvalidValues(TillError):
    """No dict from letters to COUNTS."""

    def __init__(self, value):
        self.value = value


class InvalidWord(TillError):
    """No word of the reader."""

    def __init__(self, value):
        self.value = value


class MissingError(LookupError):
    """Something that is not there."""


class MissingLetter(MissingError):
    """A free letter has no value."""

    def __init__(self, letter):
        self.letter = letter


class UnknownLabel(MissingError):
    """No such label is noted."""

    def __init__(self, value):
        self.value = value


class UnknownName(MissingError):
    """No house is kept under the name."""

    def __init__(self, value):
        self.value = value


class StateError(RuntimeError):
    """Something that does not go as things stand."""


class NotPlain(StateError):
    """A plain house or going is wanted."""


class CommandFailed(StateError):
    """A command of several ones failed."""

    def __init__(self, position):
        self.position = position


class LabelTaken(StateError):
    """The label is noted already."""

    def __init__(self, label):
        self.label = label


class NameTaken(StateError):
    """A house is kept under the name already."""

    def __init__(self, name):
        self.name = name


class NothingToRedo(StateError):
    """No deed was taken back."""


class NothingToUndo(StateError):
    """No deed is left to take back."""


class OpenSaying(StateError):
    """The saying has free letters."""

    def __init__(self, free):
        self.free = free


class UnlikeChanges(StateError):
    """The letter has not the same change in both readers."""

    def __init__(self, letter):
        self.letter = letter


class LimitError(ArithmeticError):
    """More would be needed than the document lets."""


class TooMany(LimitError):
    """There would be more of these than the limit."""

    def __init__(self, what, limit):
        self.what = what
        self.limit = limit

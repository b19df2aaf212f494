"""The desk: houses under names, claims under labels, and deeds that can be taken back."""

from lonetill.answers import answered
from lonetill.basics import is_list
from lonetill.claims import contrary_of, shows, truth_of
from lonetill.commands import DEEDS, is_deed
from lonetill.copies import copied
from lonetill.errors import CommandFailed, InvalidCommand, InvalidLines, InvalidPaper, LimitError, MissingError
from lonetill.errors import NothingToRedo, NothingToUndo, StateError, TillError, TooMany, UnknownName
from lonetill.ledger import Page, changes_between, check_label, claim_in_words, page_behind
from lonetill.scripts import words_of

MOST_DEEDS = 300


class Book:
    """A Page, the deeds that led to it, those taken back, and the papers; it never changes.

    The deeds are tuples of a line and the Page ahead of it, those taken back of a line and the Page behind it.
    """

    def __init__(self, page, done, undone, papers):
        self.page = page
        self.done = done
        self.undone = undone
        self.papers = papers


def with_deed(book, line, page):
    """The Book behind one deed more, told by its line, that makes this Page."""
    if len(book.done) == MOST_DEEDS:
        raise TooMany("deeds", MOST_DEEDS)
    return Book(page, book.done + ((line, book.page),), (), book.papers)


def taken_back(book):
    """The Book with the last deed taken back."""
    if len(book.done) == 0:
        raise NothingToUndo()
    line, page = book.done[-1]
    return Book(page, book.done[:-1], book.undone + ((line, book.page),), book.papers)


def done_again(book):
    """The Book with the last deed that was taken back done again."""
    if len(book.undone) == 0:
        raise NothingToRedo()
    line, page = book.undone[-1]
    return Book(page, book.done + ((line, book.page),), book.undone[:-1], book.papers)


class Desk:
    """Keeps houses and claims, and answers commands."""

    def __init__(self):
        self._book = Book(Page({}, {}, {}), (), (), {})

    @property
    def names(self):
        """The sorted list of the names of the kept houses."""
        return sorted(self._book.page.houses)

    @property
    def labels(self):
        """The sorted list of the labels."""
        return sorted(self._book.page.claims)

    def __len__(self):
        return len(self._book.done)

    def __getitem__(self, at):
        if at not in self:
            raise UnknownName(at)
        house, prices = self._book.page.houses[at]
        return (house, list(prices))

    def __iter__(self):
        raise TypeError("a desk is not iterated over")

    def __contains__(self, value):
        return isinstance(value, str) and value in self._book.page.houses

    def __call__(self, command):
        return self.do(command)

    def claim_of(self, label):
        """The claim of the label as a tuple, with the House as it is now; None while its state is gone."""
        page = self._book.page
        check_label(page, label)
        return None if page.states[label] == "gone" else claim_in_words(page, page.claims[label])

    def do(self, command):
        """Does a command and answers it."""
        words = words_of(command)
        if words is None:
            raise InvalidCommand(command)
        if words[0] in DEEDS:
            before = self._book.page
            self._book = with_deed(self._book, command, page_behind(before, words))
            return changes_between(before, self._book.page)
        if words[0] == "undo":
            self._book = taken_back(self._book)
            return self._book.undone[-1][0]
        if words[0] == "redo":
            self._book = done_again(self._book)
            return self._book.done[-1][0]
        return answered(self._book.page, words)

    def _each_done(self, commands):
        """The list of the answers to some commands; all is as before if one of them fails."""
        book = self._book
        out = []
        for position, command in enumerate(commands):
            try:
                out.append(self.do(command))
            except (TillError, MissingError, StateError, LimitError) as error:
                self._book = book
                raise CommandFailed(position) from error
        return out

    def do_all(self, *commands):
        """The list of the answers to the commands: if one of them fails, none has an effect."""
        return self._each_done(commands)

    def attempt(self, *commands):
        """The list of the answers to the commands, none of which has an effect."""
        book = self._book
        out = self._each_done(commands)
        self._book = book
        return out

    def attach(self, label, paper):
        """Keeps a paper of the label's claim, or of its contrary, with the label."""
        claim = self.claim_of(label)
        side = None if claim is None else side_of(claim, paper)
        if side is None:
            raise InvalidPaper(paper)
        book = self._book
        papers = {**book.papers, label: (book.page.claims[label], side, copied(paper))}
        self._book = Book(book.page, book.done, book.undone, papers)

    def fits(self, label):
        """Whether a paper is kept with the label for its words, and still is one of what it was kept for."""
        claim = self.claim_of(label)
        if claim is None or label not in self._book.papers:
            return False
        words, side, paper = self._book.papers[label]
        return words == self._book.page.claims[label] and side_of(claim, paper) == side

    def lines(self):
        """The list of the lines of the deeds that are not taken back."""
        return [line for line, _ in self._book.done]

    def copy(self):
        """A desk that goes on by itself with all that this one keeps."""
        desk = Desk()
        desk._book = self._book
        return desk

    @classmethod
    def again(cls, lines):
        """A desk that has done the deeds of these lines."""
        if not is_list(lines):
            raise InvalidLines(None)
        for position, line in enumerate(lines):
            if not is_deed(line):
                raise InvalidLines(position)
        desk = cls()
        desk._each_done(lines)
        return desk


def side_of(claim, paper):
    """Of which of both any value is a paper: "claim", or "contrary"; None of neither."""
    is_first = truth_of(claim)
    if not shows(claim if is_first else contrary_of(claim), paper):
        return None
    return "claim" if is_first else "contrary"


class Trial:
    """A block behind which a desk is as it was ahead of it."""

    def __init__(self, desk):
        self._desk = desk
        self._book = None

    def __enter__(self):
        self._book = self._desk._book
        return self._desk

    def __exit__(self, kind, value, trace):
        desk = self._desk
        desk._book = self._book


def tried(desk, action):
    """What the function returns for the desk, which is as before behind it."""
    with Trial(desk) as held:
        return action(held)

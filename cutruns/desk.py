"""A desk, on which programs, goals and rows are kept, and claims about them noted."""

from cutruns.answers import answer_of
from cutruns.basics import is_list
from cutruns.claims import contrary, is_paper_of
from cutruns.commands import command_of, is_deed, is_name
from cutruns.deeds import page_behind
from cutruns.errors import (
    CommandFailed,
    HoldError,
    InvalidCommand,
    InvalidDeeds,
    InvalidPaper,
    LabelTaken,
    LimitError,
    MissingError,
    NameTaken,
    NothingToRedo,
    NothingToUndo,
    StateError,
    TooMany,
    UnknownLabel,
    UnknownName,
)
from cutruns.pages import GONE, NAMED, Page, claim_on, handed, shown_changes

MOST_DEEDS = 200


class Book:
    """All of a desk; it never changes.

    The deeds that can be taken back, and those that can be done again, the next one last, are tuples of tuples: a line,
    and the page ahead of it, or behind it. Papers are told by their labels.
    """

    def __init__(self, page, made, undone, papers):
        self.page = page
        self.made = made
        self.undone = undone
        self.papers = papers


def _book_behind(book, line):
    """The tuple of the book behind the command, and the answer."""
    command = command_of(line)
    if command is None:
        raise InvalidCommand(line)
    _check_parts(book.page, command)
    if command.word == "undo":
        return _taken_back(book)
    if command.word == "redo":
        return _done_again(book)
    if not command.changes:
        return book, answer_of(book.page, command)
    page = page_behind(book.page, command)
    if len(book.made) >= MOST_DEEDS:
        raise TooMany("deeds", MOST_DEEDS)
    made = (*book.made, (line, book.page))
    return Book(page, made, (), book.papers), shown_changes(book.page, page)


def _check_parts(page, command):
    """Raise the error of the first part that is there though it must not be, or isn't though it must."""
    told = list(zip(command.kinds, command.parts))
    for kind, part in told:
        if kind == "new" and part in page.things:
            raise NameTaken(part)
        if kind == "fresh" and part in page.claims:
            raise LabelTaken(part)
    ahead = None
    for kind, part in told:
        if kind in NAMED or kind in ("name", "other"):
            sort = page.things[part][0] if part in page.things else None
            wanted = {"name": sort, "other": ahead}.get(kind, kind)
            if sort is None or sort != wanted:
                raise UnknownName(part)
            ahead = sort
        if kind == "label" and part not in page.claims:
            raise UnknownLabel(part)


def _taken_back(book):
    if len(book.made) == 0:
        raise NothingToUndo()
    line, page = book.made[-1]
    return Book(page, book.made[:-1], (*book.undone, (line, book.page)), book.papers), line


def _done_again(book):
    if len(book.undone) == 0:
        raise NothingToRedo()
    line, page = book.undone[-1]
    return Book(page, (*book.made, (line, book.page)), book.undone[:-1], book.papers), line


def _frozen(value):
    """The value with a tuple in the place of each list in it."""
    if not is_list(value):
        return value
    return tuple([_frozen(part) for part in value])


class Desk:
    """A desk, whose commands keep, change and ask."""

    def __init__(self):
        self.book = Book(Page({}, {}, {}), (), (), {})

    @property
    def names(self):
        """The sorted list of the names of what is kept."""
        return sorted(list(self.book.page.things))

    @property
    def labels(self):
        """The sorted list of the labels of the claims that are noted."""
        return sorted(list(self.book.page.claims))

    def __len__(self):
        return len(self.book.made)

    def __getitem__(self, at):
        if not is_name(at) or at not in self.book.page.things:
            raise UnknownName(at)
        return handed(self.book.page.things[at])

    def __iter__(self):
        raise TypeError("a desk is not iterated over")

    def __contains__(self, x):
        return is_name(x) and x in self.book.page.things

    def __call__(self, command):
        return self.do(command)

    def claim_of(self, label):
        """The claim noted under the label, with what is kept now; None while its state is gone."""
        self._check_label(label)
        page = self.book.page
        return None if page.states[label] == GONE else claim_on(page.things, page.claims[label])

    def _check_label(self, label):
        if not is_name(label) or label not in self.book.page.claims:
            raise UnknownLabel(label)

    def do(self, command):
        """Do the command, and tell the answer."""
        book, answer = _book_behind(self.book, command)
        self.book = book
        return answer

    def do_all(self, *commands):
        """Do all of the commands, or none, and tell the list of the answers."""
        book = self.book
        answers = []
        for position, command in enumerate(commands):
            try:
                book, answer = _book_behind(book, command)
            except (HoldError, MissingError, StateError, LimitError) as error:
                raise CommandFailed(position) from error
            answers.append(answer)
        self.book = book
        return answers

    def attempt(self, *commands):
        """Tell the list of the answers to all of the commands, and leave all as it was."""
        book = self.book
        answers = self.do_all(*commands)
        self.book = book
        return answers

    def attach(self, label, paper):
        """Keep the paper of the label's claim, or of its contrary, with the label."""
        claim = self.claim_of(label)
        if claim is None:
            raise InvalidPaper(paper)
        holds = is_paper_of(claim, paper)
        if not holds and not is_paper_of(contrary(claim), paper):
            raise InvalidPaper(paper)
        book = self.book
        kept = (book.page.claims[label], holds, _frozen(paper))
        self.book = Book(book.page, book.made, book.undone, {**book.papers, label: kept})

    def fits(self, label):
        """Whether the paper kept with the label is still one of what it was kept for."""
        claim = self.claim_of(label)
        if claim is None or label not in self.book.papers:
            return False
        text, holds, paper = self.book.papers[label]
        if text != self.book.page.claims[label]:
            return False
        return is_paper_of(claim if holds else contrary(claim), paper)

    def lines(self):
        """The list of the lines of the deeds that are not taken back."""
        return [line for line, _ in self.book.made]

    def copy(self):
        """A desk with all of this one, which goes on by itself."""
        other = Desk()
        other.book = self.book
        return other

    @classmethod
    def again(cls, lines):
        """A desk that has done the deeds of the lines."""
        if not is_list(lines):
            raise InvalidDeeds(None)
        for position, line in enumerate(lines):
            if not is_deed(line):
                raise InvalidDeeds(position)
        desk = cls()
        desk.do_all(*lines)
        return desk


class Trial:
    """A block behind which all of the desk is as it was ahead."""

    def __init__(self, desk):
        self.desk = desk
        self.book = desk.book

    def __enter__(self):
        self.book = self.desk.book
        return self.desk

    def __exit__(self, kind, value, trace):
        desk = self.desk
        desk.book = self.book


def tried(desk, action):
    """What the action returns for the desk, which is as it was ahead then."""
    with Trial(desk) as held:
        return action(held)

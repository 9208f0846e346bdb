"""Books: records under names, and claims about them that hold behind every change."""

from glimpserounds.basics import check_name, is_whole
from glimpserounds.claims import check_claim, first_failing, first_naming, holds, is_worded, names_in
from glimpserounds.errors import Broken, InUse, InvalidDeeds, InvalidIndex, NothingToUndo, UnknownName
from glimpserounds.pages import Page, Trial
from glimpserounds.pairs import pairs
from glimpserounds.records import check_record

# How many parts a deed with each of the words has, the word counted.
DEEDS = {"set": 3, "see": 4, "drop": 2, "claim": 2, "lift": 2}


class Book:
    """Records under names and claims about them; each change turns to a new page and can be taken back."""

    def __init__(self):
        self.page = Page({}, (), None)

    @property
    def names(self):
        return tuple(sorted(list(self.page.shelf)))

    @property
    def claims(self):
        return self.page.promises

    @property
    def changes(self):
        return self.page.number

    def __len__(self):
        return len(self.page.shelf)

    def __contains__(self, x):
        return isinstance(x, str) and x in self.page.shelf

    def __iter__(self):
        raise TypeError("a book is not iterated over; its names are")

    def __getitem__(self, at):
        if at not in self:
            raise UnknownName(at)
        return self.page.shelf[at]

    def __setitem__(self, at, worth):
        check_name(at)
        check_record(worth)
        self.page = with_record(self.page, at, worth)

    def see(self, name, time, window):
        record = self[name].seen(time, window)
        self.page = with_record(self.page, name, record)
        return len(pairs(record))

    def drop(self, name):
        check_known(self, (name,))
        page = self.page
        index = first_naming(page.promises, name)
        if index is not None:
            raise InUse(index)
        self.page = Page({key: page.shelf[key] for key in page.shelf if key != name}, page.promises, page)

    def claim(self, claim):
        check_claim(claim)
        check_known(self, names_in(claim))
        page = self.page
        if not holds(claim, page.shelf):
            raise Broken(len(page.promises))
        self.page = Page(page.shelf, page.promises + (claim,), page)

    def lift(self, index):
        page = self.page
        if not is_whole(index, 0, len(page.promises) - 1):
            raise InvalidIndex(index)
        self.page = Page(page.shelf, page.promises[:index] + page.promises[index + 1:], page)

    def undo(self):
        if self.page.before is None:
            raise NothingToUndo()
        self.page = self.page.before

    def do_all(self, *deeds, watch=None):
        check_deeds(deeds)
        # The trial turns back in any case; only if no error came out, the book then turns to the last page.
        with Trial(self):
            for deed in deeds:
                do(self, deed)
                if watch is not None:
                    watch(self)
            last = self.page
        self.page = last
        return len(deeds)

    def trial(self):
        return Trial(self)

    def tried(self, work):
        with Trial(self):
            result = work(self)
        return result


def check_known(book, names):
    """UnknownName for the first of these, from the left, that is no name of the book."""
    for name in names:
        if name not in book:
            raise UnknownName(name)


def with_record(page, name, record):
    """The page behind this one with the record under the name; Broken if a claim would fail on it."""
    shelf = {**page.shelf, name: record}
    index = first_failing(page.promises, shelf, name)
    if index is not None:
        raise Broken(index)
    return Page(shelf, page.promises, page)


def check_deeds(deeds):
    for index, deed in enumerate(deeds):
        if not is_worded(deed, dict(DEEDS)):
            raise InvalidDeeds(index)


def do(book, deed):
    """Does one deed, which has one of the words and as many parts."""
    word = deed[0]
    if word == "set":
        book[deed[1]] = deed[2]
    elif word == "see":
        book.see(deed[1], deed[2], deed[3])
    elif word == "drop":
        book.drop(deed[1])
    elif word == "claim":
        book.claim(deed[1])
    else:
        book.lift(deed[1])

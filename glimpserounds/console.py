"""The console: lines that change a book and ask for what its records tell."""

from glimpserounds.books import Book
from glimpserounds.errors import InvalidLine
from glimpserounds.letters import sure
from glimpserounds.lines import order_in
from glimpserounds.pairs import number_of, pairs, shortest
from glimpserounds.records import Record

DONE = "ok"
NOTHING = "none"


class Console:
    """A book, and the lines that it is told."""

    def __init__(self):
        self.kept_book = Book()

    @property
    def book(self):
        return self.kept_book

    def say(self, line):
        order = order_in(line)
        if order is None:
            raise InvalidLine(line)
        return done(self.kept_book, order)


def done(book, order):
    """Does what the order says, and returns what is said to it."""
    # Names that are not there need no look ahead of this: the book tells them before all other errors.
    word = order[0]
    if word == "=":
        return set_bounds(book, order)
    if word == "sees":
        return str(book.see(order[1], order[2], order[3]))
    if word in ("sure", "number", "shortest", "pairs"):
        return answer(book[order[1]], order)
    if word == "undo":
        book.undo()
    elif word == "drop":
        book.drop(order[1])
    else:
        book.claim(order)
    return DONE


def set_bounds(book, order):
    name, width, least, most, pace = order[1:]
    record = Record(width, least=least, most=most, paces=(pace,))
    book[name] = record
    return repr(record)


def answer(record, order):
    """What is said to a question about one record."""
    word = order[0]
    if word == "sure":
        return shown(sure(record, order[2]))
    if word == "number":
        return str(number_of(record))
    if word == "shortest":
        return shown(shortest(record))
    found = [f"{length} {pace}" for length, pace in pairs(record)]
    return ", ".join(found) if len(found) > 0 else NOTHING


def shown(value):
    return NOTHING if value is None else str(value)

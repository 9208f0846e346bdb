"""What the tests of books and consoles share: what a book holds, and a plain book that keeps copies of everything."""

from glimpserounds.errors import Broken, InUse, InvalidClaim, InvalidDeeds, InvalidIndex, InvalidName, InvalidTime
from glimpserounds.errors import InvalidWindow, NotARecord, NothingToUndo, TooMany, UnknownName
from glimpserounds.records import Record
from tests.listing import Listing
from tests.proofs import is_int, is_reading_by_hand
from tests.support import GREATEST, NO_INTEGERS, NO_STRINGS, NO_TUPLES, PromiseTest, agrees_by_hand, window_by_hand

SIGNS = Listing("-abc", "yz", 3)
DEEDS = {"set": 3, "see": 4, "drop": 2, "claim": 2, "lift": 2}
CLAIMS = {"fits": 2, "can": 4, "must": 4, "implies": 3, "apart": 3}
MARKS = "?-abcdefghijklmnopqrstuvwxyzABCDEFGHIJKLMNOPQRSTUVWXYZ"
NO_NAMES = [
    *NO_STRINGS, "", "A", "aB", "a b", " a", "a ", "a\n", "a-", "-", "?", "a1", "1", "abcdefghi", "a" * 9, "a" * 4000,
    "\u00e9", "a\u00e9", "\u00aa", "\u0430", "\uff41", "a_", "a.b", "a\udc80",
]
NO_CLAIMS = [
    *NO_INTEGERS, *NO_STRINGS, *NO_TUPLES, "fits", ("fits",), (), ("a",), ("fits", "a", "a"), ["fits", "a"],
    ("Fits", "a"), ("fit", "a"), (b"fits", "a"), (None, "a"), (["fits"], "a"), ("", "a"), ("barred", "a", 1, 1),
    ("can", "a"), ("can", "a", 0), ("can", "a", 0, "???", 0), ["can", "a", 0, "???"], ("must", "a", "???", 0),
    ("implies", "a"), ("implies", "a", "b", "c"), ["implies", "a", "b"], ("apart", "a"), ("apart", "a", "b", "c"),
    ("told", "a", "b"), ("fits", "a", None), ("sees", "a", 0, "???"), (("fits", "a"),), {"fits": "a"},
]


def held(book):
    """What a book holds, with its records themselves."""
    names = book.names
    return names, [book[name] for name in names], book.claims, book.changes


def same_held(one, other):
    """Whether two states are alike down to the very objects."""
    return (
        one[0] == other[0] and one[2:] == other[2:]
        and all(first is last for first, last in zip(one[1], other[1], strict=True))
        and all(first is last for first, last in zip(one[2], other[2], strict=True))
    )


def all_held(book):
    """What a book holds now and behind each change that can be taken back, the last one first."""
    def back(tried):
        found = [held(tried)]
        while tried.changes > 0:
            tried.undo()
            found.append(held(tried))
        return found

    return book.tried(back)


class BookTest(PromiseTest):
    def check_nothing_changed(self, book, before):
        after = all_held(book)
        self.assertEqual(len(before), len(after))
        self.assertTrue(all(map(same_held, before, after)), (before, after))

    def check_refused(self, book, kind, attribute, value, call, *args, **named):
        """The call raises this error, and the book is as it was, with all that can be taken back."""
        before = all_held(book)
        self.check_raises(kind, attribute, value, call, *args, **named)
        self.check_nothing_changed(book, before)


class PlainBook:
    """The book of the document, with a copy of everything for each change and all claims looked at each time."""

    def __init__(self):
        self.records = {}
        self.claims = []
        self.past = []
        self.known = {}

    def signs(self, record):
        if record.told not in self.known:
            self.known[record.told] = SIGNS.fitting(record)
        return self.known[record.told]

    def holds(self, claim, records):
        word, name, *rest = claim
        record = records[name]
        signs = self.signs(record)
        if word == "fits":
            return len(signs) > 0
        if word == "implies":
            return set(signs) <= set(self.signs(records[rest[0]]))
        if word == "apart":
            return not set(signs) & set(self.signs(records[rest[0]]))
        time, window = rest
        if not is_reading_by_hand(window, record.width, record.groups):
            return False
        agree = [
            agrees_by_hand(window_by_hand(text, pace, time, record.width), window, record.groups) for text, pace in signs
        ]
        return any(agree) if word == "can" else all(agree)

    def turn(self, records, claims):
        for index, claim in enumerate(claims):
            if not self.holds(claim, records):
                raise Broken(index)
        self.past.append((self.records, self.claims))
        self.records, self.claims = records, claims

    def is_known(self, name):
        return isinstance(name, str) and name in self.records

    def put(self, name, record):
        if not isinstance(name, str) or not 1 <= len(name) <= 8 or not all("a" <= letter <= "z" for letter in name):
            raise InvalidName(name)
        if not isinstance(record, Record):
            raise NotARecord(record)
        self.turn({**self.records, name: record}, list(self.claims))

    def see(self, name, time, window):
        if not self.is_known(name):
            raise UnknownName(name)
        if not is_int(time, 0, GREATEST):
            raise InvalidTime(time)
        record = self.records[name]
        readable = is_reading_by_hand(window, record.width, record.groups)
        if not readable or any(window[place] != "?" for place in record.dead):
            raise InvalidWindow(window)
        if len(record.glances) == 12:
            raise TooMany(12)
        seen = Record.of((*record.told[:6], (*record.glances, (time, window))))
        self.turn({**self.records, name: seen}, list(self.claims))
        return len({(len(text), pace) for text, pace in self.signs(seen)})

    def drop(self, name):
        if not self.is_known(name):
            raise UnknownName(name)
        for index, claim in enumerate(self.claims):
            if claim[1] == name or (claim[0] in ("implies", "apart") and claim[2] == name):
                raise InUse(index)
        self.turn({key: record for key, record in self.records.items() if key != name}, list(self.claims))

    def claim(self, claim):
        if not isinstance(claim, tuple) or not claim or not isinstance(claim[0], str):
            raise InvalidClaim(claim)
        if CLAIMS.get(claim[0]) != len(claim):
            raise InvalidClaim(claim)
        if len(claim) == 4:
            time, window = claim[2:]
            if not is_int(time, 0, GREATEST) or not isinstance(window, str) or not 1 <= len(window) <= 8:
                raise InvalidClaim(claim)
            if not all(mark in MARKS for mark in window):
                raise InvalidClaim(claim)
        for name in claim[1:2] if len(claim) == 4 else claim[1:]:
            if not self.is_known(name):
                raise UnknownName(name)
        self.turn(dict(self.records), [*self.claims, claim])

    def lift(self, index):
        if not is_int(index, 0, len(self.claims) - 1):
            raise InvalidIndex(index)
        self.turn(dict(self.records), [claim for at, claim in enumerate(self.claims) if at != index])

    def undo(self):
        if not self.past:
            raise NothingToUndo()
        self.records, self.claims = self.past.pop()

    def state(self):
        return self.records, self.claims, list(self.past)

    def go_back(self, state):
        self.records, self.claims, self.past = state[0], state[1], list(state[2])

    def do_all(self, *deeds, watch=None):
        for index, deed in enumerate(deeds):
            if not isinstance(deed, tuple) or not deed or not isinstance(deed[0], str):
                raise InvalidDeeds(index)
            if DEEDS.get(deed[0]) != len(deed):
                raise InvalidDeeds(index)
        start = self.state()
        try:
            for word, *rest in deeds:
                {"set": self.put, "see": self.see, "drop": self.drop, "claim": self.claim, "lift": self.lift}[word](*rest)
                if watch is not None:
                    watch(self)
        except BaseException:
            self.go_back(start)
            raise
        return len(deeds)

"""Books beside a plain one that keeps copies of everything and lists all signs for each claim."""

import unittest

from glimpserounds.books import Book
from glimpserounds.records import Record
from tests.listing import some_record, some_time
from tests.shelves import SIGNS, PlainBook, PromiseTest
from tests.support import same, some

NAMES = ("a", "b", "ab", "c")
WRONG = (None, True, "", "Q", "abcdefghi", [], -1, 7, ("a",), "abc", 10 ** 31)


class Stop(Exception):
    pass


def outcome(call, *args, **named):
    """What came back, or which error with which attributes."""
    try:
        return "back", call(*args, **named)
    except Exception as error:
        return type(error), vars(error)


def put(book, name, record):
    book[name] = record


class Pair:
    """A book and a plain one, to which the same is done."""

    def __init__(self, test, choice):
        self.test = test
        self.choice = choice
        self.book = Book()
        self.plain = PlainBook()
        self.found = {}

    def compare(self):
        test, book, plain = self.test, self.book, self.plain
        test.assertEqual(book.names, tuple(sorted(plain.records)))
        test.assertEqual([book[name].told for name in book.names], [plain.records[name].told for name in book.names])
        test.assertEqual([book.claims, book.changes, len(book)], [tuple(plain.claims), len(plain.past), len(plain.records)])
        test.assertEqual(bool(book), bool(plain.records))

    def both(self, deed):
        word, *rest = deed
        calls = {"set": lambda name, record: put(self.book, name, record), "undo": self.book.undo}
        plain = {"set": self.plain.put}
        first = outcome(calls.get(word) or getattr(self.book, word), *rest)
        last = outcome(plain.get(word) or getattr(self.plain, word), *rest)
        self.test.assertEqual(first[0], last[0], deed)
        self.test.assertTrue(same(first[1], last[1]) or first[1] == last[1], (deed, first, last))
        self.found[word, first[0]] = self.found.get((word, first[0]), 0) + 1
        self.compare()

    def name(self):
        return self.choice.choice(WRONG) if self.choice.random() < 0.05 else self.choice.choice(NAMES)

    def record(self):
        if self.choice.random() < 0.03:
            return self.choice.choice(WRONG)
        if self.choice.random() < 0.4 and self.plain.records:
            told = self.choice.choice(list(self.plain.records.values())).told
            return Record.of((*told[:6], told[6][:self.choice.randint(0, 12)]))
        return some_record(self.choice, longest=3, wrong=0.02, most=3)

    def view(self, name):
        """A time and a window, often near to what a sign that fits the record shows."""
        record = self.plain.records.get(name) if isinstance(name, str) else None
        time = self.choice.choice((0, 1, some_time(self.choice)))
        if self.choice.random() < 0.04:
            return self.choice.choice(WRONG), "a"
        if record is None or self.choice.random() < 0.1:
            return time, self.choice.choice((*WRONG, "a", "ab", "A", "?", "??", "???", "B?", "a-c"))
        signs = self.plain.signs(record)
        text, pace = self.choice.choice(signs or [("a", 1)])
        marks = "-abc" + "".join(record.groups).upper()
        window = ""
        for place in range(record.width):
            letter = text[(place + pace * time) % len(text)]
            mark = letter if letter in marks and self.choice.random() < 0.6 else self.choice.choice("?????" + marks)
            window += mark if place not in record.dead or self.choice.random() < 0.1 else "?"
        return time, window

    def claim(self):
        name = self.name()
        word = self.choice.choice(("fits", "can", "must", "implies", "apart"))
        if self.choice.random() < 0.03:
            return self.choice.choice((*WRONG, ("fits",), ("can", name, 0), (word, name, name, name)))
        if word == "fits":
            return (word, name)
        return (word, name, self.name()) if word in ("implies", "apart") else (word, name, *self.view(name))

    def deed(self):
        word = self.choice.choice(("set", "set", "see", "see", "see", "drop", "claim", "claim", "claim", "lift"))
        if word == "set":
            return (word, self.name(), self.record())
        if word == "see":
            name = self.name()
            return (word, name, *self.view(name))
        if word == "drop":
            return (word, self.name())
        if word == "claim":
            return (word, self.claim())
        return (word, self.choice.choice((*WRONG, *range(4))))

    def several(self):
        deeds = [self.deed() for number in range(self.choice.randint(0, 4))]
        if self.choice.random() < 0.1:
            deeds.insert(self.choice.randint(0, len(deeds)), self.choice.choice((*WRONG, ("undo",), ("drop",))))
        limit = self.choice.choice((None, None, 1, 2, 3))
        watched = ([], [])

        def watch_for(row):
            def watch(told):
                row.append(sorted(told.names if isinstance(told, Book) else told.records))
                if len(row) == limit:
                    raise Stop()

            return watch

        first = outcome(self.book.do_all, *deeds, watch=watch_for(watched[0]))
        last = outcome(self.plain.do_all, *deeds, watch=watch_for(watched[1]))
        self.test.assertEqual(first, last, deeds)
        self.test.assertEqual(watched[0], watched[1])
        self.found["do_all", first[0]] = self.found.get(("do_all", first[0]), 0) + 1
        self.compare()

    def trial(self, depth, known):
        state = self.plain.state()
        trial = self.choice.choice([*known, self.book.trial()])
        stop = self.choice.random() < 0.4
        try:
            with trial as tried:
                self.test.assertIs(tried, self.book)
                self.steps(self.choice.randint(0, 6), depth + 1, [*known, trial])
                if stop:
                    raise Stop()
        except Stop:
            self.test.assertTrue(stop)
        self.plain.go_back(state)
        self.compare()

    def steps(self, many, depth=0, known=()):
        for number in range(many):
            chance = self.choice.random()
            if chance < 0.08:
                self.both(("undo",))
            elif chance < 0.18:
                self.several()
            elif chance < 0.23 and depth < 3:
                self.trial(depth, list(known))
            else:
                self.both(self.deed())


class ByChanceTest(PromiseTest):
    def test_beside_a_plain_book(self):
        found = {}
        for number in range(150):
            pair = Pair(self, some(f"book {number}"))
            pair.steps(70)
            while pair.plain.past:
                pair.both(("undo",))
            pair.both(("undo",))
            for key, many in pair.found.items():
                found[key] = found.get(key, 0) + many
        names = {(word, kind if isinstance(kind, str) else kind.__name__): many for (word, kind), many in found.items()}
        for key in (
            ("set", "back"), ("set", "Broken"), ("set", "InvalidName"), ("set", "NotARecord"), ("see", "back"),
            ("see", "Broken"), ("see", "UnknownName"), ("see", "InvalidTime"), ("see", "InvalidWindow"),
            ("drop", "back"), ("drop", "InUse"), ("drop", "UnknownName"), ("claim", "back"), ("claim", "Broken"),
            ("claim", "InvalidClaim"), ("claim", "UnknownName"), ("lift", "back"), ("lift", "InvalidIndex"),
            ("undo", "back"), ("undo", "NothingToUndo"), ("do_all", "back"), ("do_all", "Stop"),
            ("do_all", "InvalidDeeds"), ("do_all", "Broken"),
        ):
            self.assertGreater(names.get(key, 0), 20, (key, names))

    def test_all_claims_hold_behind_each_change(self):
        pair = Pair(self, some("claims that hold"))
        for number in range(600):
            pair.steps(1)
            for claim in pair.book.claims:
                records = {name: pair.book[name] for name in pair.book.names}
                self.assertIs(pair.plain.holds(claim, records), True, claim)
        self.assertEqual(SIGNS.longest, 3)


if __name__ == "__main__":
    unittest.main()

import unittest

from glimpserounds.books import Book
from glimpserounds.errors import Broken, InUse, InvalidClaim, InvalidIndex, InvalidName, InvalidTime, InvalidWindow
from glimpserounds.errors import NotARecord, NothingToUndo, TooMany, UnknownName
from glimpserounds.pairs import pairs
from glimpserounds.records import Record
from glimpserounds.signs import Sign
from tests.proofs import Hostile
from tests.shelves import NO_CLAIMS, NO_NAMES, BookTest
from tests.support import GREATEST, NO_INTEGERS, NO_RECORDS, NO_TIMES, NO_WINDOWS, crowded

WIDE = Record(3, least=2, most=4)
ONE = WIDE.seen(0, "aba")
CLAIMS = [
    ("fits", "a"), ("can", "a", 1, "bac"), ("must", "a", 0, "ab?"), ("implies", "a", "b"), ("apart", "a", "c"),
]


def put(book, name, record):
    book[name] = record


def get(book, name):
    return book[name]


def full():
    """A book with three names and a claim of each form, made in eight changes."""
    book = Book()
    book["b"] = WIDE
    book["a"] = ONE
    book["c"] = WIDE.seen(0, "??b")
    for claim in CLAIMS:
        book.claim(claim)
    return book


class NamesTest(BookTest):
    def test_an_empty_book(self):
        book = Book()
        self.assertEqual([len(book), bool(book), book.names, book.claims, book.changes], [0, False, (), (), 0])
        self.assertIs("a" in book, False)
        self.check_refused(book, UnknownName, "given", "a", get, book, "a")

    def test_records_under_names(self):
        book = Book()
        rows = {"b": ONE, "a": WIDE, "zzzzzzzz": ONE, "abcdefgh": Record(8), "undo": Record(1), "aa": ONE.seen(0, "???")}
        for number, (name, record) in enumerate(rows.items()):
            book[name] = record
            self.assertEqual([len(book), book.changes, bool(book)], [number + 1] * 2 + [True])
            self.assertIs(book[name], record)
        self.assertEqual(book.names, ("a", "aa", "abcdefgh", "b", "undo", "zzzzzzzz"))
        for name, record in rows.items():
            self.assertIs(book[name], record)
            self.assertIs(name in book, True)
        again = Record(3, least=2, most=4)
        book["a"] = again
        self.assertIs(book["a"], again)
        self.assertEqual([len(book), book.changes], [6, 7])

    def test_setting_what_was_there_is_a_change(self):
        book = full()
        before = book.changes
        book["a"] = book["a"]
        self.assertEqual(book.changes, before + 1)
        self.assertIs(book["a"], ONE)
        book.undo()
        self.assertEqual(book.changes, before)
        self.assertIs(book["a"], ONE)

    def test_names_that_are_none(self):
        book = full()
        for wrong in NO_NAMES:
            self.check_refused(book, InvalidName, "given", wrong, put, book, wrong, ONE)
            self.check_refused(book, InvalidName, "given", wrong, put, book, wrong, None)

    def test_unknown_names(self):
        book = full()
        for wrong in [*NO_NAMES, "d", "aa", "ab", "abcdefgh", ("a",), ["a"], Hostile()]:
            self.check_refused(book, UnknownName, "given", wrong, get, book, wrong)
            self.assertIs(wrong in book, False)
            self.assertIs(wrong not in book, True)
            self.check_refused(book, UnknownName, "given", wrong, book.see, wrong, 0, "???")
            self.check_refused(book, UnknownName, "given", wrong, book.see, window=None, time=None, name=wrong)
            self.check_refused(book, UnknownName, "given", wrong, book.drop, wrong)
            self.check_refused(book, UnknownName, "given", wrong, book.drop, name=wrong)
            for claim in (("fits", wrong), ("can", wrong, 0, "a"), ("must", wrong, 0, "?"), ("implies", "a", wrong)):
                self.check_refused(book, UnknownName, "given", wrong, book.claim, claim)
                self.check_refused(book, UnknownName, "given", wrong, book.claim, claim=claim)
            self.check_refused(book, UnknownName, "given", wrong, book.claim, ("implies", wrong, 5))
            self.check_refused(book, UnknownName, "given", wrong, book.claim, ("apart", wrong, wrong))

    def test_no_records(self):
        book = full()
        for wrong in NO_RECORDS:
            self.check_refused(book, NotARecord, "given", wrong, put, book, "a", wrong)
            self.check_refused(book, NotARecord, "given", wrong, put, book, "new", wrong)

    def test_equal_only_to_itself(self):
        book = Book()
        self.assertIs(book == book, True)
        self.assertIs(book != book, False)
        self.check_unequal_to_others(book, [Book(), full(), None, 0, "", (), {}, [], ONE, Sign("a"), Book])
        full_one = full()
        self.assertIs(full_one == full_one, True)
        self.check_unequal_to_others(full_one, [full(), Book(), 3, ONE])

    def test_names_and_claims_are_tuples_of_their_own(self):
        book = full()
        names, claims = book.names, book.claims
        self.assertEqual([type(names), type(claims)], [tuple, tuple])
        book.lift(0)
        book["d"] = ONE
        self.assertEqual([names, claims], [("a", "b", "c"), tuple(CLAIMS)])


class SeeTest(BookTest):
    def test_see(self):
        book = Book()
        book["a"] = WIDE
        self.assertEqual(book.see("a", 0, "aba"), 3)
        self.assertEqual(book.see(window="ba?", time=1, name="a"), 3)
        self.assertEqual(book.see("a", 2, "ab?"), 2)
        self.assertEqual(book["a"], WIDE.seen(0, "aba").seen(1, "ba?").seen(2, "ab?"))
        self.assertEqual(book.see("a", 3, "c??"), 0)
        self.assertEqual([book.changes, len(book), len(book["a"])], [5, 1, 4])
        self.assertEqual(WIDE.glances, ())

    def test_the_number_is_that_of_the_pairs(self):
        book = Book()
        book["a"] = Record(4, most=40, paces=tuple(range(-9, 10)), groups=("ab",))
        for time, window in ((0, "ab??"), (3, "?A??"), (GREATEST, "a-B?"), (7, "????")):
            number = book.see("a", time, window)
            self.assertEqual(number, len(pairs(book["a"])))

    def test_times_and_windows(self):
        book = Book()
        book["a"] = Record(3, dead=(1,), groups=("ab",))
        for wrong in NO_TIMES:
            self.check_refused(book, InvalidTime, "given", wrong, book.see, "a", wrong, "a?b")
            self.check_refused(book, InvalidTime, "given", wrong, book.see, window=None, time=wrong, name="a")
        for wrong in [*NO_WINDOWS, "abc", "?-?", "a?C", "?A?"]:
            self.check_refused(book, InvalidWindow, "given", wrong, book.see, "a", 0, wrong)
            self.check_refused(book, InvalidWindow, "given", wrong, book.see, window=wrong, time=0, name="a")
        self.assertEqual(book.see("a", GREATEST, "A?-"), 18)

    def test_twelve_glances(self):
        book = Book()
        book["a"] = crowded(11, ONE)
        book.claim(("must", "a", 0, "aba"))
        self.check_refused(book, TooMany, "most", 12, book.see, "a", 0, "aba")
        # A thirteenth glance is told ahead of a claim that it would break, but behind what is wrong in itself.
        book.claim(("fits", "a"))
        self.check_refused(book, TooMany, "most", 12, book.see, "a", 0, "c??")
        self.check_refused(book, InvalidWindow, "given", "c?", book.see, "a", 0, "c?")
        self.check_refused(book, InvalidTime, "given", -1, book.see, "a", -1, "c?")

    def test_the_order_of_the_checks(self):
        book = full()
        rows = [
            ("name", "a", "d", UnknownName, "given", "d"),
            ("time", 1, -1, InvalidTime, "given", -1),
            ("window", "bab", "bA?", InvalidWindow, "given", "bA?"),
        ]
        before = book.changes
        self.check_order(book.see, rows)
        self.assertEqual(book.changes, before)
        # What would break a claim comes last.
        self.check_refused(book, Broken, "index", 0, book.see, "a", 0, "c??")


class ClaimsTest(BookTest):
    def test_claims_as_they_were_passed(self):
        book = full()
        self.assertEqual(book.claims, tuple(CLAIMS))
        for claim, kept in zip(CLAIMS, book.claims):
            self.assertIs(kept, claim)
        self.assertEqual(book.changes, 8)
        again = ("fits", "a")
        self.assertIs(book.claim(claim=again), None)
        self.assertEqual(book.claims, (*CLAIMS, again))

    def test_no_claims(self):
        book = full()
        for wrong in NO_CLAIMS:
            self.check_refused(book, InvalidClaim, "given", wrong, book.claim, wrong)
            self.check_refused(book, InvalidClaim, "given", wrong, book.claim, claim=wrong)

    def test_times_and_windows_of_claims(self):
        book = full()
        windows = [wrong for wrong in NO_WINDOWS if wrong not in ("a", "ab", "abca", "????", "abC", "abcabc")]
        for word in ("can", "must"):
            for name in ("a", "unknown", "no name", None, []):
                for wrong in [(word, name, time, "???") for time in NO_TIMES]:
                    self.check_refused(book, InvalidClaim, "given", wrong, book.claim, wrong)
                for wrong in [(word, name, 0, window) for window in [*windows, "abcdefghi", "?" * 9]]:
                    self.check_refused(book, InvalidClaim, "given", wrong, book.claim, wrong)
        for window in ("A??", "Z??", "?", "????????", "ABCDEFGH", "a-zAZ?"):
            for time in (0, GREATEST):
                self.check_refused(book, UnknownName, "given", "d", book.claim, ("can", "d", time, window))
                if window != "???":
                    self.check_refused(book, Broken, "index", 5, book.claim, ("must", "a", time, window))

    def test_what_stands_in_the_places_of_the_names(self):
        book = full()
        for thing in (None, 0, True, [], {}, (), "", "A", "abcdefghi", "d", ONE, Hostile()):
            for claim in (("fits", thing), ("can", thing, 0, "z"), ("implies", thing, None), ("apart", thing, "a")):
                self.check_refused(book, UnknownName, "given", thing, book.claim, claim)
            for claim in (("implies", "a", thing), ("apart", "b", thing)):
                self.check_refused(book, UnknownName, "given", thing, book.claim, claim)

    def test_claims_that_fail(self):
        book = Book()
        book["a"] = ONE
        book["none"] = Record(1, most=1).seen(0, "a").seen(0, "b")
        book["wide"] = Record(2, least=2, most=4)
        for claim in (
            ("fits", "none"), ("can", "a", 0, "c??"), ("can", "none", 0, "?"), ("must", "a", 0, "?c?"),
            ("must", "a", 3, "a??"), ("implies", "wide", "a"), ("apart", "a", "wide"), ("apart", "a", "a"),
            ("implies", "a", "none"), ("can", "a", 0, "ab"), ("must", "a", 0, "??"), ("must", "none", 0, "??"),
            ("can", "a", 0, "A??"), ("must", "none", 0, "A"), ("can", "a", 0, "????"), ("must", "a", 0, "????"),
        ):
            self.check_refused(book, Broken, "index", 0, book.claim, claim)
        book.claim(("implies", "a", "a"))
        book.claim(("apart", "none", "none"))
        book.claim(("implies", "none", "a"))
        book.claim(("must", "none", 0, "z"))
        self.check_refused(book, Broken, "index", 4, book.claim, ("fits", "none"))

    def test_capital_letters_of_a_group(self):
        book = Book()
        book["a"] = Record(2, groups=("ab",)).seen(0, "A?")
        book.claim(("must", "a", 0, "B?"))
        self.check_refused(book, Broken, "index", 0, put, book, "a", Record(2).seen(0, "a?"))
        self.check_refused(book, Broken, "index", 0, put, book, "a", Record(2, groups=("ac",)).seen(0, "a?"))
        self.check_refused(book, Broken, "index", 0, put, book, "a", Record(3, groups=("ab",)).seen(0, "a??"))
        book["a"] = Record(2, groups=("bca",)).seen(0, "C-")

    def test_changes_that_would_break_a_claim(self):
        for index, claim in enumerate(CLAIMS):
            book = full()
            for other in reversed(range(5)):
                if other != index:
                    book.lift(other)
            wrong = {
                "fits": ("a", WIDE.seen(0, "a??").seen(0, "b??")), "can": ("a", WIDE.seen(1, "c??")),
                "must": ("a", WIDE), "implies": ("a", Record(3, least=1, most=4)), "apart": ("c", WIDE),
            }[claim[0]]
            self.check_refused(book, Broken, "index", 0, put, book, *wrong)
            book.lift(0)
            book[wrong[0]] = wrong[1]

    def test_the_index_is_that_of_the_first_claim_that_fails(self):
        book = full()
        none = WIDE.seen(0, "a??").seen(0, "b??")
        self.check_refused(book, Broken, "index", 0, put, book, "a", none)
        book.lift(0)
        self.check_refused(book, Broken, "index", 0, put, book, "a", none)
        book.lift(0)
        # For a record that no sign fits all others hold.
        book["a"] = none
        book.undo()
        self.check_refused(book, Broken, "index", 0, put, book, "a", WIDE)
        self.check_refused(book, Broken, "index", 1, put, book, "a", Record(3, most=9).seen(0, "aba"))
        self.check_refused(book, Broken, "index", 1, put, book, "b", WIDE.seen(0, "b??"))
        self.check_refused(book, Broken, "index", 2, put, book, "c", WIDE)
        self.check_refused(book, Broken, "index", 2, put, book, "c", Record(1, least=2, most=2))

    def test_a_glance_that_would_break_a_claim(self):
        book = full()
        self.check_refused(book, Broken, "index", 0, book.see, "a", 0, "b??")
        self.check_refused(book, Broken, "index", 1, book.see, "a", 2, "ab?")
        self.check_refused(book, Broken, "index", 3, book.see, "b", 5, "a??")
        self.assertEqual(book.see("c", 5, "a??"), 2)
        self.assertEqual(book.see("a", 1, "ba?"), 3)

    def test_names_without_claims_are_free(self):
        book = full()
        book["d"] = WIDE
        book["d"] = Record(1).seen(0, "a").seen(0, "b")
        self.assertEqual(book.see("d", 0, "?"), 0)
        book.drop("d")
        self.assertEqual(book.names, ("a", "b", "c"))


class DropTest(BookTest):
    def test_drop(self):
        book = Book()
        book["a"] = ONE
        book["b"] = WIDE
        self.assertIs(book.drop("a"), None)
        self.assertEqual([book.names, book.changes, "a" in book], [("b",), 3, False])
        self.assertIs(book.drop(name="b"), None)
        self.assertEqual([book.names, book.changes, bool(book)], [(), 4, False])
        self.check_refused(book, UnknownName, "given", "b", book.drop, "b")
        book.undo()
        book.undo()
        self.assertIs(book["a"], ONE)

    def test_names_in_use(self):
        book = full()
        for name, index in (("a", 0), ("b", 3), ("c", 4)):
            self.check_refused(book, InUse, "index", index, book.drop, name)
            self.check_refused(book, InUse, "index", index, book.drop, name=name)
        book.lift(3)
        book.drop("b")
        self.check_refused(book, InUse, "index", 3, book.drop, "c")
        for number in range(4):
            self.check_refused(book, InUse, "index", 0, book.drop, "a")
            book.lift(0)
        book.drop("a")
        book.drop("c")
        self.assertEqual([len(book), book.claims], [0, ()])

    def test_a_window_or_a_word_is_no_name_in_use(self):
        book = Book()
        book["a"] = ONE
        for name in ("aba", "can", "must", "fits", "implies"):
            book[name] = WIDE
        for claim in (("can", "a", 0, "aba"), ("must", "a", 0, "aba"), ("fits", "a"), ("implies", "a", "a")):
            book.claim(claim)
        for name in ("aba", "can", "must", "fits", "implies"):
            book[name] = Record(1).seen(0, "a").seen(0, "b")
            book.drop(name)
        self.assertEqual(book.names, ("a",))

    def test_named_as_the_second_one(self):
        book = Book()
        book["a"] = ONE
        book["b"] = WIDE
        book.claim(("fits", "a"))
        book.claim(("implies", "a", "b"))
        self.check_refused(book, InUse, "index", 1, book.drop, "b")


class LiftTest(BookTest):
    def test_lift(self):
        book = full()
        self.assertIs(book.lift(1), None)
        self.assertEqual(book.claims, (CLAIMS[0], *CLAIMS[2:]))
        self.assertIs(book.lift(index=3), None)
        self.assertEqual(book.claims, (CLAIMS[0], CLAIMS[2], CLAIMS[3]))
        self.assertIs(book.lift(0), None)
        self.assertEqual(book.claims, (CLAIMS[2], CLAIMS[3]))
        self.assertEqual(book.changes, 11)
        for number in range(3):
            book.undo()
        self.assertEqual(book.claims, tuple(CLAIMS))

    def test_no_index(self):
        book = full()
        for wrong in [*NO_INTEGERS, -1, -5, 5, 6, GREATEST, -GREATEST, Hostile(), [0], "0"]:
            self.check_refused(book, InvalidIndex, "given", wrong, book.lift, wrong)
            self.check_refused(book, InvalidIndex, "given", wrong, book.lift, index=wrong)
        for number in range(5):
            book.lift(0)
        for wrong in (0, -1, 1):
            self.check_refused(book, InvalidIndex, "given", wrong, book.lift, wrong)
        self.check_raises(InvalidIndex, "given", 0, Book().lift, 0)


class UndoTest(BookTest):
    def test_nothing_to_undo(self):
        book = Book()
        with self.assertRaises(NothingToUndo):
            book.undo()
        book["a"] = ONE
        self.assertIs(book.undo(), None)
        with self.assertRaises(NothingToUndo):
            book.undo()
        self.assertEqual([book.changes, len(book)], [0, 0])

    def test_what_was_taken_back_is_gone(self):
        book = full()
        book.undo()
        book.undo()
        self.assertEqual([book.claims, book.changes], [tuple(CLAIMS[:3]), 6])
        book.claim(CLAIMS[4])
        self.assertEqual([book.claims, book.changes], [(*CLAIMS[:3], CLAIMS[4]), 7])
        book.undo()
        self.assertEqual([book.claims, book.changes], [tuple(CLAIMS[:3]), 6])

    def test_an_error_is_no_change(self):
        book = full()
        self.check_raises(Broken, "index", 0, book.see, "a", 0, "b??")
        self.check_raises(InUse, "index", 0, book.drop, "a")
        book.undo()
        self.assertEqual([book.claims, book.changes], [tuple(CLAIMS[:4]), 7])


if __name__ == "__main__":
    unittest.main()

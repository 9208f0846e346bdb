"""Changes taken back, several deeds at once, and trials."""

import unittest

from glimpserounds.books import Book
from glimpserounds.errors import Broken, InUse, InvalidClaim, InvalidDeeds, InvalidIndex, InvalidName, InvalidTime
from glimpserounds.errors import InvalidWindow, NotARecord, NothingToUndo, TooMany, UnknownName
from glimpserounds.records import Record
from tests.proofs import Hostile
from tests.shelves import DEEDS, BookTest, all_held, held, same_held
from tests.support import NO_INTEGERS, NO_STRINGS, NO_TUPLES, crowded, some

WIDE = Record(3, least=2, most=4)
ONE = WIDE.seen(0, "aba")
RIGHT = [
    ("set", "b", WIDE), ("see", "b", 0, "ab?"), ("claim", ("fits", "b")), ("set", "c", ONE),
    ("claim", ("implies", "c", "b")), ("lift", 2), ("drop", "c"), ("set", "b", WIDE),
]
# Deeds that fail, wherever they stand, with their errors.
WRONG = [
    (("set", "B", WIDE), InvalidName, "given", "B"),
    (("set", [], None), InvalidName, "given", []),
    (("set", "b", WIDE.told), NotARecord, "given", WIDE.told),
    (("set", "a", Record(2)), Broken, "index", 0),
    (("see", "d", 0, "???"), UnknownName, "given", "d"),
    (("see", "a", True, "???"), InvalidTime, "given", True),
    (("see", "a", 0, "??"), InvalidWindow, "given", "??"),
    (("see", "a", 0, "c??"), Broken, "index", 0),
    (("see", "full", 0, "c??"), TooMany, "most", 12),
    (("drop", "d"), UnknownName, "given", "d"),
    (("drop", {}), UnknownName, "given", {}),
    (("drop", "a"), InUse, "index", 0),
    (("claim", ("fits",)), InvalidClaim, "given", ("fits",)),
    (("claim", ("fits", "d")), UnknownName, "given", "d"),
    (("lift", 9), InvalidIndex, "given", 9),
    (("lift", -1), InvalidIndex, "given", -1),
]


class Own(Exception):
    pass


class OwnBase(BaseException):
    pass


def some_book():
    book = Book()
    book["a"] = ONE
    book["full"] = crowded(12, WIDE)
    book.claim(("can", "a", 1, "ba?"))
    return book


def work_through(book):
    """Some changes of each kind."""
    book["t"] = WIDE
    book.see("t", 0, "abc")
    book.claim(("fits", "t"))
    book.lift(0)
    book.drop("full")
    book["a"] = Record(1)


class TakenBackTest(BookTest):
    def test_a_long_row_of_changes_of_each_kind(self):
        choice = some("long rows")
        book = Book()
        states = [held(book)]
        for number in range(1500):
            name = choice.choice(("a", "b", "c"))
            deed = choice.choice(("set", "set", "see", "see", "see", "drop", "claim", "claim", "lift"))
            try:
                if deed == "set":
                    book[name] = choice.choice((ONE, WIDE, Record(3, least=2, most=4)))
                elif deed == "see":
                    book.see(name, choice.randint(0, 3), choice.choice(("???", "a??", "??b", "ab?")))
                elif deed == "drop":
                    book.drop(name)
                elif deed == "claim":
                    other = choice.choice(("a", "b", "c"))
                    book.claim(choice.choice((("fits", name), ("implies", name, other), ("must", name, 0, "???"))))
                else:
                    book.lift(choice.randint(0, 3))
            except (Broken, InUse, InvalidIndex, TooMany, UnknownName):
                self.assertTrue(same_held(held(book), states[-1]))
                continue
            states.append(held(book))
            self.assertEqual(book.changes, len(states) - 1)
        self.assertGreater(len(states), 500)
        while len(states) > 1:
            self.assertTrue(same_held(held(book), states.pop()))
            self.assertIs(book.undo(), None)
        self.assertTrue(same_held(held(book), states[0]))
        with self.assertRaises(NothingToUndo):
            book.undo()

    def test_very_many_changes(self):
        book = Book()
        records = [ONE, WIDE]
        for number in range(30000):
            book["a"] = records[number % 2]
        self.assertEqual(book.changes, 30000)
        for number in reversed(range(15000, 30000)):
            self.assertIs(book["a"], records[number % 2])
            book.undo()
        self.assertEqual(book.changes, 15000)
        # What is left goes away with the book.
        del book

    def test_changes_that_set_what_was_there(self):
        book = Book()
        for number in range(5):
            book["a"] = ONE
        self.assertEqual([book.changes, len(book)], [5, 1])
        for number in range(5):
            self.assertIs(book["a"], ONE)
            book.undo()
        self.assertEqual([book.changes, len(book)], [0, 0])
        book["a"] = WIDE
        book.see("a", 0, "???")
        book.see("a", 0, "???")
        self.assertEqual([book.changes, len(book["a"])], [3, 2])
        book.undo()
        self.assertEqual([book.changes, len(book["a"])], [2, 1])

    def test_what_was_dropped_comes_back_itself(self):
        book = some_book()
        record = book["full"]
        book.drop("full")
        book["full"] = WIDE
        book.undo()
        self.assertNotIn("full", book)
        book.undo()
        self.assertIs(book["full"], record)

    def test_two_books_are_free_of_each_other(self):
        one, other = some_book(), some_book()
        work_through(one)
        one.undo()
        self.assertEqual([other.names, other.changes, other.claims], [("a", "full"), 3, (("can", "a", 1, "ba?"),)])


class DoAllTest(BookTest):
    def test_deeds_one_by_one(self):
        for many in range(len(RIGHT) + 1):
            book, other = some_book(), some_book()
            seen = []
            self.assertEqual(book.do_all(*RIGHT[:many], watch=lambda told: seen.append((told is book, held(told)))), many)
            states = []
            for deed in RIGHT[:many]:
                self.assertEqual(other.do_all(deed), 1)
                states.append(held(other))
            self.assertEqual([told for itself, told in seen], states)
            self.assertEqual({itself for itself, told in seen} - {True}, set())
            self.assertEqual([book.changes, held(book)], [3 + many, held(other)])
            while book.changes > 0:
                book.undo()
                other.undo()
                self.assertEqual(held(book), held(other))

    def test_each_deed_is_what_the_method_does(self):
        book, other = some_book(), some_book()
        book.do_all(*RIGHT)
        other["b"] = WIDE
        other.see("b", 0, "ab?")
        other.claim(("fits", "b"))
        other["c"] = ONE
        other.claim(("implies", "c", "b"))
        other.lift(2)
        other.drop("c")
        other["b"] = WIDE
        self.assertEqual(all_held(book)[:8], all_held(other)[:8])
        self.assertEqual([book.names, book.claims[1:]], [("a", "b", "full"), (("fits", "b"),)])

    def test_no_deeds(self):
        book = some_book()
        before = all_held(book)
        self.assertEqual(book.do_all(), 0)
        self.assertEqual(book.do_all(watch=None), 0)
        self.assertEqual(book.do_all(watch=Hostile()), 0)
        self.check_nothing_changed(book, before)

    def test_a_deed_that_fails_at_each_place(self):
        for wrong, kind, attribute, value in WRONG:
            for at in range(4):
                book = some_book()
                watched = []
                deeds = [*RIGHT[:at], wrong, *RIGHT[at:4]]
                self.check_refused(book, kind, attribute, value, book.do_all, *deeds)
                self.check_refused(
                    book, kind, attribute, value, book.do_all, *deeds, watch=lambda told: watched.append(told.changes),
                )
                self.assertEqual(watched, [4 + number for number in range(at)])
                self.assertEqual(book.do_all(*RIGHT[:4]), 4)

    def test_the_first_deed_that_fails(self):
        book = some_book()
        self.check_refused(book, UnknownName, "given", "d", book.do_all, ("drop", "d"), ("lift", 9), ("drop", "e"))
        self.check_refused(book, InvalidIndex, "given", 9, book.do_all, ("lift", 0), ("lift", 9), ("drop", "d"))

    def test_a_deed_can_need_those_ahead_of_it(self):
        book = some_book()
        self.check_refused(book, InUse, "index", 0, book.do_all, ("drop", "a"), ("lift", 0))
        self.assertEqual(book.do_all(("lift", 0), ("drop", "a")), 2)
        self.assertEqual([book.names, book.claims, book.changes], [("full",), (), 5])
        book.undo()
        self.assertEqual([book.names, book.claims, book.changes], [("a", "full"), (), 4])
        # Each deed alone has to leave the claims as they are.
        book = some_book()
        deeds = (("set", "a", WIDE.seen(1, "c??")), ("lift", 0))
        self.check_refused(book, Broken, "index", 0, book.do_all, *deeds)
        self.assertEqual(book.do_all(*reversed(deeds)), 2)

    def test_what_is_no_deed(self):
        wrong = [
            *NO_INTEGERS, *NO_STRINGS, *NO_TUPLES, (), ("undo",), ("set",), ("set", "b"),
            ("set", "b", WIDE, 1), ["set", "b", WIDE], ("see", "a", 0), ("see", "a", 0, "???", 1), ("drop",),
            ("drop", "a", "b"), ("claim",), ("claim", "fits", "a"), ("lift",), ("lift", 0, 0), ("Set", "b", WIDE),
            (b"drop", "a"), (None, "a"), ([], "a"), ("do_all", ()), ("", "a"), ("drop ", "a"), ("sees", "a", 0, "???"),
            Hostile(), (Hostile(), "a"), (("drop",), "a"), {"drop": "a"}, ("fits", "a"), ("trial",),
        ]
        book = some_book()
        watched = []
        for thing in wrong:
            for at in range(4):
                deeds = [*RIGHT[:at], thing, *RIGHT[at:3]]
                self.check_refused(book, InvalidDeeds, "index", at, book.do_all, *deeds, watch=watched.append)
                # What is no deed is told ahead of all that fails, and the first one of several is.
                late = [("drop", "d"), *deeds, thing]
                self.check_refused(book, InvalidDeeds, "index", at + 1, book.do_all, *late, watch=watched.append)
        self.assertEqual(watched, [])

    def test_one_part_more_or_less(self):
        book = some_book()
        for word, many in DEEDS.items():
            for other in range(6):
                if other != many - 1:
                    self.check_refused(book, InvalidDeeds, "index", 0, book.do_all, (word, *(["a"] * other)))

    def test_a_watch_that_raises_at_each_place(self):
        for error in (Own, OwnBase, KeyboardInterrupt, Broken, StopIteration):
            for at in range(1, len(RIGHT) + 1):
                book = some_book()
                before = all_held(book)
                calls = []
                raised = error(0)

                def watch(told):
                    calls.append(told.changes)
                    if len(calls) == at:
                        raise raised

                with self.assertRaises(error) as context:
                    book.do_all(*RIGHT, watch=watch)
                self.assertIs(context.exception, raised)
                self.assertEqual(calls, list(range(4, 4 + at)))
                self.check_nothing_changed(book, before)

    def test_a_watch_that_tries(self):
        book = some_book()
        names = []

        def watch(told):
            told.tried(lambda tried: tried.do_all(("lift", 0), ("drop", "a"), ("set", "z", ONE)))
            with told.trial():
                while told.changes:
                    told.undo()
            names.append(told.names)

        self.assertEqual(book.do_all(("set", "b", WIDE), ("drop", "full"), watch=watch), 2)
        self.assertEqual(names, [("a", "b", "full"), ("a", "b")])
        self.assertEqual([book.names, book.changes], [("a", "b"), 5])

    def test_watch_is_passed_by_name_alone(self):
        book = some_book()
        self.check_refused(book, InvalidDeeds, "index", 1, book.do_all, ("drop", "full"), print)

    def test_nothing_that_is_passed_is_changed(self):
        book = some_book()
        deeds = [("set", "b", WIDE), ("claim", ("fits", "b"))]
        kept = list(deeds)
        book.do_all(*deeds)
        self.assertEqual(deeds, kept)
        self.assertIs(book["b"], WIDE)
        self.assertIs(book.claims[-1], deeds[1][1])
        self.assertEqual(WIDE.told, (3, (), 2, 4, (1,), (), ()))


class TrialTest(BookTest):
    def test_a_trial_leaves_nothing_behind(self):
        book = some_book()
        before = all_held(book)
        with book.trial() as tried:
            self.assertIs(tried, book)
            work_through(book)
            self.assertEqual([book.changes, book.names], [9, ("a", "t")])
        self.check_nothing_changed(book, before)
        book["new"] = ONE
        self.assertEqual(book.changes, 4)

    def test_what_is_taken_back_within_comes_back(self):
        book = some_book()
        before = all_held(book)
        with book.trial():
            while book.changes > 0:
                book.undo()
            self.assertEqual(len(book), 0)
            book["x"] = WIDE
        self.check_nothing_changed(book, before)
        with book.trial():
            pass
        self.check_nothing_changed(book, before)

    def test_trials_that_end_by_an_error(self):
        for error in (Own, OwnBase, KeyboardInterrupt, GeneratorExit, SystemExit, StopIteration):
            book = some_book()
            before = all_held(book)
            raised = error("told")
            with self.assertRaises(error) as context:
                with book.trial():
                    work_through(book)
                    raise raised
            self.assertIs(context.exception, raised)
            self.check_nothing_changed(book, before)

    def test_an_error_of_the_book_itself(self):
        book = some_book()
        before = all_held(book)
        with self.assertRaises(Broken):
            with book.trial():
                book.drop("full")
                book.see("a", 0, "c??")
        self.check_nothing_changed(book, before)
        with self.assertRaises(InvalidIndex):
            with book.trial():
                book.do_all(("drop", "full"), ("lift", 0), ("lift", 0))
        self.check_nothing_changed(book, before)

    def test_ends_by_return_break_and_continue(self):
        book = some_book()
        before = all_held(book)

        def leave():
            with book.trial():
                work_through(book)
                return len(book)

        self.assertEqual(leave(), 2)
        self.check_nothing_changed(book, before)
        for number in range(3):
            with book.trial():
                work_through(book)
                if number == 1:
                    break
                continue
        self.check_nothing_changed(book, before)

    def test_one_within_another(self):
        book = some_book()
        before = all_held(book)
        with book.trial():
            book["x"] = WIDE
            inner = all_held(book)
            with book.trial():
                work_through(book)
                with self.assertRaises(Own):
                    with book.trial():
                        book.drop("x")
                        raise Own()
                self.assertIn("x", book)
                self.assertIn("t", book)
            self.check_nothing_changed(book, inner)
            self.assertEqual(book.changes, 4)
        self.check_nothing_changed(book, before)

    def test_one_trial_entered_within_itself(self):
        book = some_book()
        before = all_held(book)
        trial = book.trial()
        with trial as first:
            book["x"] = WIDE
            second_time = all_held(book)
            with trial as second:
                book["y"] = WIDE
                third_time = all_held(book)
                with self.assertRaises(Own):
                    with trial as third:
                        work_through(book)
                        raise Own()
                self.check_nothing_changed(book, third_time)
            self.check_nothing_changed(book, second_time)
            with trial:
                book.undo()
                book.undo()
            self.check_nothing_changed(book, second_time)
        self.check_nothing_changed(book, before)
        self.assertEqual([first is book, second is book, third is book], [True] * 3)

    def test_one_trial_entered_several_times(self):
        book = some_book()
        trial = book.trial()
        for number in range(5):
            before = all_held(book)
            with trial:
                work_through(book)
            self.check_nothing_changed(book, before)
            # It begins where the book then is, not where the trial was made.
            book[f"{'abcde'[number]}z"] = WIDE
        self.assertEqual(book.changes, 8)

    def test_two_trials_of_one_book_and_one_of_another(self):
        book, other = some_book(), some_book()
        before, before_other = all_held(book), all_held(other)
        one, two, there = book.trial(), book.trial(), other.trial()
        with one, there, two, one:
            work_through(book)
            work_through(other)
        self.check_nothing_changed(book, before)
        self.check_nothing_changed(other, before_other)

    def test_trials_are_true_and_equal_to_themselves_alone(self):
        book = Book()
        trial = book.trial()
        self.assertIs(bool(trial), True)
        self.assertIs(trial == trial, True)
        self.check_unequal_to_others(trial, [book.trial(), book, None, 0, ()])


class TriedTest(BookTest):
    def test_what_work_returns(self):
        book = some_book()
        before = all_held(book)
        thing = object()
        for work, wanted in ((len, 2), (lambda told: thing, thing), (lambda told: told, book), (work_through, None)):
            self.assertIs(book.tried(work), wanted)
            self.assertIs(book.tried(work=work), wanted)
            self.check_nothing_changed(book, before)

    def test_work_sees_its_own_changes(self):
        book = some_book()

        def work(told):
            work_through(told)
            return told.names, told.changes, told.see("t", 1, "b??")

        self.assertEqual(book.tried(work), (("a", "t"), 9, 2))
        self.assertEqual([book.names, book.changes], [("a", "full"), 3])

    def test_work_that_raises(self):
        for error in (Own, OwnBase, KeyboardInterrupt):
            book = some_book()
            before = all_held(book)
            raised = error()

            def work(told):
                work_through(told)
                raise raised

            with self.assertRaises(error) as context:
                book.tried(work)
            self.assertIs(context.exception, raised)
            self.check_nothing_changed(book, before)

    def test_one_within_another(self):
        book = some_book()
        before = all_held(book)
        depth = book.tried(lambda told: told.tried(lambda inner: (work_through(inner), inner.changes)[1]) + told.changes)
        self.assertEqual(depth, 12)
        self.check_nothing_changed(book, before)


if __name__ == "__main__":
    unittest.main()

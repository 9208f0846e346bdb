import re
import unittest

from glimpserounds.books import Book
from glimpserounds.console import Console
from glimpserounds.errors import Broken, InUse, InvalidLine, InvalidWindow, NothingToUndo, TooMany, UnknownName
from glimpserounds.letters import sure
from glimpserounds.pairs import number_of, pairs, shortest
from glimpserounds.records import Record
from tests.proofs import Hostile
from tests.shelves import BookTest, all_held
from tests.support import GREATEST, NO_INTEGERS, NO_STRINGS, NO_TUPLES, crowded, some

NAME = "([a-z]{1,8})"
WHOLE = "(0|-?[1-9][0-9]*)"
WINDOW = "([?a-zA-Z-]{1,8})"
# What the document shows for each line; the bounds of the numbers are looked at apart.
FORMS = {
    "undo": "undo",
    "drop": f"drop {NAME}",
    "=": f"{NAME} = {WHOLE} {WHOLE} {WHOLE} {WHOLE}",
    "sees": f"{NAME} sees {WHOLE} {WINDOW}",
    "can": f"{NAME} can {WHOLE} {WINDOW}",
    "must": f"{NAME} must {WHOLE} {WINDOW}",
    "fits": f"{NAME} fits",
    "implies": f"{NAME} implies {NAME}",
    "apart": f"{NAME} apart {NAME}",
    "sure": f"{NAME} sure {WHOLE}",
    "number": f"{NAME} number",
    "shortest": f"{NAME} shortest",
    "pairs": f"{NAME} pairs",
}
WORDS = ("fits", "can", "must", "implies", "apart", "sees", "sure", "number", "shortest", "pairs", "drop", "undo", "none")
RIGHT = [
    "a = 3 2 4 1", "b = 8 1 40 -9", "abcdefgh = 1 40 40 9", "a sees 0 aba", f"a sees {GREATEST} ???", "a sees 1 ba?",
    "drop a", "drop drop", "undo", "a fits", "a can 2 ac?", "a must 0 a??", "a implies b", "a apart b", "a sure 3",
    f"a sure {GREATEST}", "a number", "a shortest", "a pairs", "drop fits", "undo fits", "drop = 1 1 1 0",
    "drop sees 0 a", "sees sees 0 Z", "a can 0 ABCDEFGH", "implies implies implies", "drop apart drop", "drop sure 0",
]


def told_by_hand(line):
    """The word of the line and what is told in it; None if it is none."""
    if not isinstance(line, str):
        return None
    found = [(word, re.fullmatch(form, line)) for word, form in FORMS.items()]
    found = [(word, match.groups()) for word, match in found if match]
    # Only what is dropped can be taken for a line about one record, and it is meant then.
    word, told = found[0] if found else (None, ())
    if word == "=":
        width, least, most, pace = map(int, told[1:])
        if not (1 <= width <= 8 and 1 <= least <= 40 and least <= most <= 40 and -9 <= pace <= 9):
            return None
    if word in ("sees", "can", "must", "sure") and not 0 <= int(told[1]) <= GREATEST:
        return None
    return None if word is None else (word, told)


def say_by_hand(book, line):
    """What the line does with a book, and what is said to it."""
    word, told = told_by_hand(line)
    for name in told[1 if word == "=" else 0:2 if word in ("implies", "apart") else 1]:
        if name not in book:
            raise UnknownName(name)
    if word == "=":
        width, least, most, pace = map(int, told[1:])
        book[told[0]] = Record(width, least=least, most=most, paces=(pace,))
        return repr(book[told[0]])
    if word == "sees":
        return str(book.see(told[0], int(told[1]), told[2]))
    if word == "sure":
        window = sure(book[told[0]], int(told[1]))
        return "none" if window is None else window
    if word == "number":
        return str(number_of(book[told[0]]))
    if word == "shortest":
        sign = shortest(book[told[0]])
        return "none" if sign is None else str(sign)
    if word == "pairs":
        return ", ".join(f"{length} {pace}" for length, pace in pairs(book[told[0]])) or "none"
    if word == "undo":
        book.undo()
    elif word == "drop":
        book.drop(*told)
    elif word in ("can", "must"):
        book.claim((word, told[0], int(told[1]), told[2]))
    else:
        book.claim((word, *told))
    return "ok"


def some_console():
    """A console with two records and a claim."""
    console = Console()
    for line in ("a = 3 2 4 1", "a sees 0 aba", "b = 3 2 4 1", "a implies b"):
        console.say(line)
    return console


class ConsoleTest(BookTest):
    def check_said(self, console, line, kind, attribute, value):
        """The line raises this error and changes nothing."""
        self.check_refused(console.book, kind, attribute, value, console.say, line)
        self.check_refused(console.book, kind, attribute, value, console.say, line=line)

    def check_no_line(self, console, line):
        self.check_refused(console.book, InvalidLine, "given", line, console.say, line)


class LinesTest(ConsoleTest):
    def test_a_new_console(self):
        console = Console()
        self.assertIs(type(console.book), Book)
        self.assertEqual([len(console.book), console.book.changes], [0, 0])
        self.assertIs(console.book, console.book)
        self.assertIsNot(console.book, Console().book)
        with self.assertRaises(NothingToUndo):
            console.say("undo")

    def test_equal_only_to_itself_and_true(self):
        console = Console()
        self.assertIs(console == console, True)
        self.assertIs(bool(console), True)
        self.check_unequal_to_others(console, [Console(), console.book, None, 0, "", ()])

    def test_bounds(self):
        console = Console()
        self.assertEqual(console.say("a = 8 1 40 -9"), "Record of 8 places, 0 glances")
        self.assertEqual(console.book["a"], Record(8, least=1, most=40, paces=(-9,)))
        self.assertEqual(console.say(line="a = 1 40 40 0"), "Record of 1 places, 0 glances")
        self.assertEqual(console.book["a"].told, (1, (), 40, 40, (0,), (), ()))
        self.assertEqual(console.book.changes, 2)

    def test_sees(self):
        console = Console()
        console.say("a = 3 2 4 1")
        self.assertEqual([console.say("a sees 0 aba"), console.say("a sees 2 ab?"), console.say(f"a sees {GREATEST} c??")],
                         ["3", "2", "0"])
        self.assertEqual(console.book["a"].glances, ((0, "aba"), (2, "ab?"), (GREATEST, "c??")))

    def test_questions(self):
        console = Console()
        console.say("a = 2 1 2 -1")
        self.assertEqual(console.say("a pairs"), "1 -1, 2 -1")
        self.assertEqual(console.say("a number"), str(27 + 27 * 27))
        self.assertEqual(console.say("a shortest"), "- at -1")
        self.assertEqual(console.say("a sure 5"), "??")
        console.say("a sees 0 ba")
        self.assertEqual([console.say(f"a {word}") for word in ("pairs", "number", "shortest", f"sure {GREATEST}")],
                         ["2 -1", "1", "ba at -1", "ba"])
        console.say("a sees 0 bb")
        self.assertEqual([console.say(f"a {word}") for word in ("pairs", "number", "shortest", "sure 0")],
                         ["none", "0", "none", "none"])
        self.assertEqual(console.book.changes, 3)

    def test_great_numbers(self):
        console = Console()
        console.say("a = 8 1 40 9")
        self.assertEqual(console.say("a number"), str(sum(27 ** length for length in range(1, 41))))

    def test_claims(self):
        console = some_console()
        for line in ("a fits", "a can 2 ac?", "a must 0 ab?", "b implies b"):
            self.assertEqual(console.say(line), "ok")
        console.say("c = 1 40 40 1")
        self.assertEqual(console.say("c apart a"), "ok")
        self.assertEqual(console.book.claims, (
            ("implies", "a", "b"), ("fits", "a"), ("can", "a", 2, "ac?"), ("must", "a", 0, "ab?"), ("implies", "b", "b"),
            ("apart", "c", "a"),
        ))
        self.check_said(console, "a apart b", Broken, "index", 6)
        self.check_said(console, "b implies a", Broken, "index", 6)
        self.check_said(console, "a can 0 c??", Broken, "index", 6)
        self.check_said(console, "a can 0 a?", Broken, "index", 6)
        self.check_said(console, "a can 0 A??", Broken, "index", 6)
        self.check_said(console, "a sees 0 b??", Broken, "index", 1)
        self.check_said(console, "a = 3 2 4 1", Broken, "index", 3)
        self.check_said(console, "b = 3 2 2 1", Broken, "index", 0)

    def test_drop_and_undo(self):
        console = some_console()
        self.check_said(console, "drop a", InUse, "index", 0)
        self.check_said(console, "drop b", InUse, "index", 0)
        self.assertEqual([console.say("undo"), console.say("drop a"), console.book.names], ["ok", "ok", ("b",)])
        self.assertEqual([console.say("undo"), console.book.names], ["ok", ("a", "b")])
        for number in range(3):
            self.assertEqual(console.say("undo"), "ok")
        with self.assertRaises(NothingToUndo):
            console.say("undo")

    def test_names_like_words(self):
        console = Console()
        for number, name in enumerate(WORDS):
            self.assertEqual(console.say(f"{name} = 1 1 2 1"), "Record of 1 places, 0 glances")
            self.assertEqual(console.say(f"{name} sees 0 a"), "2")
            self.assertEqual(console.say(f"{name} sure 0"), "a")
            if name != "drop":
                self.assertEqual([console.say(f"{name} number"), console.say(f"{name} pairs")], ["28", "1 1, 2 1"])
                self.assertEqual(console.say(f"{name} shortest"), "a at 1")
        for name in WORDS:
            self.assertEqual(console.say(f"drop {name}"), "ok")
            self.assertNotIn(name, console.book)
            self.check_said(console, f"drop {name}", UnknownName, "given", name)
            console.say("undo")
        for name in WORDS:
            for word in ("can 0 a", "must 0 a", "implies drop", "apart drop"):
                if word == "apart drop":
                    self.check_said(console, f"{name} {word}", Broken, "index", len(console.book.claims))
                else:
                    self.assertEqual(console.say(f"{name} {word}"), "ok")
        self.check_said(console, "drop fits", InUse, "index", 0)
        self.check_said(console, "undo fits fits", InvalidLine, "given", "undo fits fits")
        self.assertEqual(console.say("undo fits"), "ok")
        self.assertEqual(console.book.claims[-1], ("fits", "undo"))

    def test_windows_that_are_none_of_the_record(self):
        console = some_console()
        for window in ("a", "ab", "abca", "????????", "A??", "Z", "ABC"):
            self.check_said(console, f"a sees 0 {window}", InvalidWindow, "given", window)
        for number in range(11):
            console.say(f"a sees {number} ???")
        self.check_said(console, "a sees 0 ???", TooMany, "most", 12)
        self.check_said(console, "a sees 0 ??", InvalidWindow, "given", "??")

    def test_the_book_can_be_changed_beside_the_console(self):
        console = Console()
        console.book["a"] = Record(2, dead=(1,), least=2, most=2, paces=(-3, 1), groups=("ab",)).seen(0, "A?")
        self.assertEqual(console.say("a pairs"), "2 -3, 2 1")
        self.assertEqual(console.say("a must 0 B?"), "ok")
        self.assertEqual(console.say("a sees 2 a?"), "2")
        self.check_said(console, "a sees 2 ?a", InvalidWindow, "given", "?a")
        self.assertEqual(console.say("undo"), "ok")
        self.assertEqual([console.book.changes, len(console.book["a"])], [2, 1])
        with console.book.trial():
            console.say("undo")
            console.say("undo")
            console.say("b = 1 1 1 1")
        self.assertEqual([console.book.changes, console.book.names], [2, ("a",)])


class UnknownTest(ConsoleTest):
    def test_the_first_name_from_the_left(self):
        console = some_console()
        for line, name in (
            ("x sees 0 aba", "x"), ("x sees 0 ZZZZ", "x"), ("drop x", "x"), ("x fits", "x"), ("x can 0 a", "x"),
            ("x must 0 a", "x"), ("x implies y", "x"), ("x implies a", "x"), ("a implies y", "y"), ("y apart x", "y"),
            ("a apart x", "x"), ("x apart x", "x"), ("x sure 0", "x"), ("x number", "x"), ("x shortest", "x"),
            ("x pairs", "x"), ("fits fits", "fits"), ("drop pairs", "pairs"), ("undo number", "undo"), ("aa fits", "aa"),
        ):
            self.check_said(console, line, UnknownName, "given", name)
        self.assertEqual(console.say("x = 1 1 1 1"), "Record of 1 places, 0 glances")

    def test_a_wrong_line_is_told_ahead_of_an_unknown_name(self):
        console = some_console()
        for line in ("x sees -1 aba", "x sees 0 abcabcabc", "x implies Y", "x can 0", "x sure", "x = 9 1 1 1", "drop X"):
            self.check_no_line(console, line)


class NoLinesTest(ConsoleTest):
    def test_what_is_no_string(self):
        console = some_console()
        for wrong in [*NO_INTEGERS, *NO_STRINGS, *NO_TUPLES, b"undo", ["undo"], ("a", "fits"), Hostile()]:
            self.check_said(console, wrong, InvalidLine, "given", wrong)

    def test_numbers_at_and_beyond_their_bounds(self):
        console = some_console()
        for line, right in (
            ("n = 0 1 1 1", False), ("n = 1 1 1 1", True), ("n = 8 1 1 1", True), ("n = 9 1 1 1", False),
            ("n = -1 1 1 1", False), ("n = 1 0 1 1", False), ("n = 1 40 40 1", True), ("n = 1 41 41 1", False),
            ("n = 1 1 41 1", False), ("n = 1 1 40 1", True), ("n = 1 5 4 1", False), ("n = 1 5 5 1", True),
            ("n = 1 1 0 1", False), ("n = 1 1 1 -9", True), ("n = 1 1 1 -10", False), ("n = 1 1 1 9", True),
            ("n = 1 1 1 10", False), ("n = 1 1 1 0", True), ("n = 1 1 1 -0", False), ("n = 1 1 1 +1", False),
            ("n = 01 1 1 1", False), ("n = 1 01 1 1", False), ("n = 1 1 01 1", False), ("n = 1 1 1 01", False),
            ("n = 1 1 1 -01", False), ("n = 1 1 1 --1", False), ("n = 1 1 1 1-", False), ("n = 1 1 1 -", False),
            ("n = 1 1 1 - 1", False), ("n = 1 1 1 1.0", False), ("n = 1 1 1 1_0", False), ("n = 1 1 1 \u0661", False),
            ("n = 1 1 1 \u00b2", False), ("n = \uff11 1 1 1", False), ("n = 1 1 1 0x1", False), ("n = 1 1 1 True", False),
            ("a sure -1", False), ("a sure 0", True), ("a sure 00", False), ("a sure -0", False), ("a sure +0", False),
            (f"a sure {GREATEST}", True), (f"a sure {GREATEST + 1}", False), (f"a sure 0{GREATEST}", False),
            (f"a sure {GREATEST * 10}", False), (f"a sure {'1' * 31}", False), (f"a sure {'9' * 30}", True),
            (f"a sure {'9' * 3000}", False), (f"a sure {'0' * 3000}", False), ("a sure 1e3", False),
            ("a sees -1 ???", False), ("a sees 00 ???", False), (f"a sees {GREATEST} ???", True),
            (f"a sees {GREATEST + 1} ???", False), ("a sees 1_0 ???", False), ("a can -1 ???", False),
            (f"a can {GREATEST} ???", True), (f"a must {GREATEST + 1} ???", False), ("a must 0 ???", True),
        ):
            self.assertIs(told_by_hand(line) is not None, right, line)
            if right:
                self.assertIs(type(console.say(line)), str, line)
            else:
                self.check_no_line(console, line)

    def test_blanks(self):
        console = some_console()
        for line in RIGHT:
            for other in (
                " " + line, line + " ", "\t" + line, line + "\n", line + "\r\n", line.replace(" ", "  "),
                line.replace(" ", "\t"), line.replace(" ", "\n"), line.replace(" ", "\u00a0"), line.replace(" ", "  ", 1),
                line + " a", line + " 1", "a " + line, line.upper(), line.title(), line + ";", line + "\n" + line,
            ):
                if told_by_hand(other) is None:
                    self.check_no_line(console, other)
        for line in ("", " ", "  ", "\n", "undo ", " undo", "undo undo", "undo 1", "drop", "drop ", "drop  a", "drop a b"):
            self.check_no_line(console, line)

    def test_windows_and_names_that_are_none(self):
        console = some_console()
        for window in ("", "?????????", "a1", "a.", "a_", "\u00e9", "\u212a", "a*", "!"):
            for word in ("sees", "can", "must"):
                self.check_no_line(console, f"a {word} 0 {window}")
        for name in ("", "A", "abcdefghi", "a1", "a-", "-", "?", "\u00e9", "\u00aa", "="):
            for line in ("{} fits", "{} = 1 1 1 1", "drop {}", "a implies {}", "{} apart a", "{} sees 0 a", "{} pairs"):
                self.check_no_line(console, line.format(name))

    def test_one_character_more_less_or_changed(self):
        found = {True: 0, False: 0}
        for line in RIGHT:
            self.assertIsNot(told_by_hand(line), None, line)
            others = set()
            for at in range(len(line) + 1):
                for mark in " a1-?A=\n0":
                    others.add(line[:at] + mark + line[at:])
                    others.add(line[:at] + mark + line[at + 1:])
                others.add(line[:at] + line[at + 1:])
            for other in sorted(others):
                found[self.check_beside_hand(some_console(), other)] += 1
        self.assertGreater(min(found.values()), 400)

    def check_beside_hand(self, console, line):
        """Whether it is a line; what comes of it is as by hand."""
        if told_by_hand(line) is None:
            self.check_raises(InvalidLine, "given", line, console.say, line)
            return False
        other = some_console()
        try:
            wanted = say_by_hand(other.book, line)
        except Exception as error:
            with self.assertRaises(type(error)) as context:
                console.say(line)
            self.assertEqual(vars(context.exception), vars(error))
        else:
            self.assertEqual(console.say(line), wanted, line)
        self.assertEqual(all_held(console.book), all_held(other.book))
        return True


class ByChanceTest(ConsoleTest):
    def some_line(self, choice, start):
        """A line; at the start it is one that sets a record or puts a glance to it."""
        name, other = choice.choice(("a", "a", "b", "drop")), choice.choice(("a", "b", "fits"))
        time = choice.choice((0, 0, 1, 2, 7, GREATEST))
        window = "".join(choice.choice("ab??") for place in range(choice.choice((2, 2, 2, 3))))
        least = choice.randint(1, 3)
        bounds = f"{name} = 2 {least} {choice.randint(least, 4)} {choice.randint(-2, 2)}"
        glance = f"{name} sees {time} {window}"
        if start:
            return choice.choice((bounds, glance, glance))
        return choice.choice((
            bounds, glance, glance, f"{name} fits", f"{name} can {time} {window}", f"{name} must {time} {window}",
            f"{name} implies {other}", f"{name} apart {other}", f"{name} sure {time}", f"{name} number",
            f"{name} shortest", f"{name} pairs", f"drop {other}", "undo", f"{name} seems {time}", f"{name}  fits",
        ))

    def test_long_talks(self):
        choice = some("talks")
        said = {}
        for number in range(150):
            console, book = Console(), Book()
            for step in range(60):
                line = self.some_line(choice, step < 30)
                if told_by_hand(line) is None:
                    self.check_raises(InvalidLine, "given", line, console.say, line)
                    continue
                word = told_by_hand(line)[0]
                try:
                    wanted = say_by_hand(book, line)
                except Exception as error:
                    with self.assertRaises(type(error)) as context:
                        console.say(line)
                    self.assertEqual(vars(context.exception), vars(error))
                    wanted = type(error).__name__
                else:
                    found = console.say(line)
                    self.assertIs(type(found), str)
                    self.assertEqual(found, wanted, line)
                said[word] = said.get(word, set()) | {wanted}
                self.assertEqual(console.book.names, book.names)
                self.assertEqual([console.book.claims, console.book.changes], [book.claims, book.changes])
                self.assertEqual([console.book[name] for name in book.names], [book[name] for name in book.names])
        self.assertEqual(set(said), set(FORMS))
        for word in ("fits", "can", "must", "implies", "apart"):
            self.assertEqual(said[word], {"ok", "Broken", "UnknownName"}, word)
        self.assertEqual(said["drop"], {"ok", "InUse", "UnknownName"})
        for word in ("sure", "shortest", "pairs"):
            self.assertIn("none", said[word])

    def test_twelve_glances(self):
        console = Console()
        console.book["a"] = crowded(12, Record(2))
        self.check_said(console, "a sees 0 ??", TooMany, "most", 12)


if __name__ == "__main__":
    unittest.main()

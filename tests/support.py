"""What the tests share: values that are wrong, the document's definitions by hand, and checks of errors."""

import itertools
import random
import unittest
from decimal import Decimal
from fractions import Fraction

from glimpserounds.records import Record
from glimpserounds.signs import Sign

LETTERS = "-abcdefghijklmnopqrstuvwxyz"
GREATEST = 10 ** 30


class Odd:
    """A value of a class of its own, which could be taken for an integer."""

    def __index__(self):
        return 1

    def __int__(self):
        return 1


NO_INTEGERS = [
    None, True, False, "", "1", b"1", (), (1,), [], [1], {}, {1: 1}, {1}, frozenset(), object(), Odd(), Odd, int,
    len, 1j, Fraction(1), Decimal(1), range(3), NotImplemented, Ellipsis, ValueError("1"),
]
NO_STRINGS = [
    None, True, False, 0, 1, -1, 10 ** 30, b"a", b"aaa", (), ("a",), ("a", "a", "a"), [], ["a"], ["a", "a", "a"],
    {}, {"a": "a"}, {"a"}, object(), Odd(), str, len, 1j, NotImplemented, Ellipsis,
]
NO_TUPLES = [
    None, True, False, 0, 1, "", "a", "ab", b"ab", [], [0], [1], ["ab"], {}, {0: 0}, {"ab": 1}, set(), {1}, {"ab"},
    frozenset([1]), range(1), range(1, 3), object(), Odd(), tuple, iter((1,)), Ellipsis,
]

NO_WIDTHS = [*NO_INTEGERS, 0, -1, -8, 9, 10, 40, GREATEST]
NO_TIMES = [*NO_INTEGERS, -1, -2, -GREATEST, GREATEST + 1, GREATEST * 10, 10 ** 39]
NO_RECORDS = [
    *NO_INTEGERS, *NO_STRINGS, *NO_TUPLES, Record, Sign("ab"), Record(2).told, (Record(2),), [Record(2)], "Record",
    {"record": Record(2)}, repr(Record(2)),
]
# What is no reading of three places with the group ab.
NO_WINDOWS = [
    *NO_STRINGS, "", "a", "ab", "abca", "????", "abcabc", "abC", "a.c", "a c", "ab1", "ab_", "ab\n", "ab*",
    "ab\u00e9", "\u00aaab", "\u212aab", "\u0391ab", "ab\uff21", "ab\udc80",
]


def crowded(number, record):
    """The record with so many glances more, at the times from 0 on, at which nothing was read."""
    for time in range(number):
        record = record.seen(time, "?" * record.width)
    return record


def window_by_hand(text, pace, time, width):
    """The window letter by letter, with the numbers of the text laid out as point 6 counts them."""
    numbers = {remainder: letter for remainder, letter in enumerate(text)}
    return "".join(numbers[(place + pace * time) % len(text)] for place in range(width))


def agrees_by_hand(window, reading, groups):
    for letter, mark in zip(window, reading, strict=True):
        if mark in ("?", letter):
            continue
        if mark.isupper() and any(mark.lower() in group and letter in group for group in groups):
            continue
        return False
    return True


def fits_by_hand(told, text, pace):
    width, dead, least, most, paces, groups, glances = told
    if not least <= len(text) <= most or pace not in paces:
        return False
    return all(agrees_by_hand(window_by_hand(text, pace, time, width), reading, groups) for time, reading in glances)


def some(seed):
    """A row of choices that is the same in every run."""
    return random.Random(seed)


def some_reading(choice, record, text, pace, time, wrong=0.02):
    """A reading that mostly agrees with the sign with this text and pace."""
    reading = ""
    for place, letter in enumerate(window_by_hand(text, pace, time, record.width)):
        group = "".join(group for group in record.groups if letter in group)
        marks = [letter, letter, "?"] + [other.upper() for other in group]
        if choice.random() < wrong:
            marks = "bc-" + "".join(record.groups).upper()
        reading += "?" if place in record.dead else choice.choice(marks)
    return reading


def same(one, other):
    """Whether two values are the same one, or alike and of one class (so that True is not 1)."""
    return one is other or (type(one) is type(other) and one == other)


class PromiseTest(unittest.TestCase):
    def check_raises(self, kind, attribute, value, call, *args, **named):
        """The call raises exactly this class, and its attribute is this value."""
        try:
            result = call(*args, **named)
        except Exception as error:
            self.assertIs(type(error), kind, f"{error!r} for {args!r} {named!r}")
            kept = getattr(error, attribute)
            self.assertTrue(same(kept, value), f"{attribute} is {kept!r}, not {value!r}, for {args!r} {named!r}")
        else:
            self.fail(f"{result!r} came back for {args!r} {named!r}, not {kind.__name__}")

    def check_order(self, call, rows, positional=True):
        """Whatever is wrong, the error is that of the first wrong argument.

        A row is (name, right value, wrong value, error class, attribute, its value).
        """
        for wrong in itertools.product((False, True), repeat=len(rows)):
            if not any(wrong):
                continue
            values = [row[2] if bad else row[1] for row, bad in zip(rows, wrong)]
            kind, attribute, value = rows[wrong.index(True)][3:]
            named = {row[0]: passed for row, passed in zip(rows, values)}
            self.check_raises(kind, attribute, value, call, **named)
            backwards = dict(reversed(list(named.items())))
            self.check_raises(kind, attribute, value, call, **backwards)
            if positional:
                self.check_raises(kind, attribute, value, call, *values)

    def check_unequal_to_others(self, thing, others):
        for other in others:
            self.assertIs(thing == other, False, f"== {other!r}")
            self.assertIs(thing != other, True, f"!= {other!r}")
            self.assertIs(other == thing, False, f"{other!r} ==")
            self.assertIs(other != thing, True, f"{other!r} !=")

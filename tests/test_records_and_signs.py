"""What a record says of signs, and of other records: fits and joined."""

import itertools
import unittest

from glimpserounds.errors import NotARecord, NotASign, OtherKind, TooMany
from glimpserounds.records import Record
from glimpserounds.signs import Sign
from tests.support import GREATEST, LETTERS, NO_INTEGERS, NO_RECORDS, NO_STRINGS, PromiseTest
from tests.support import crowded, fits_by_hand, some, some_reading, window_by_hand


class FitsTest(PromiseTest):
    def check(self, record, sign):
        fits = record.fits(sign)
        if fits is not fits_by_hand(record.told, sign.text, sign.pace):
            self.fail(f"{fits!r} for {sign!r} and {record.told!r}")
        return fits

    def test_every_letter_against_every_mark(self):
        groups = ("oc", "ilj", "xyz")
        bounds = Record(1, groups=groups)
        for letter, mark in itertools.product(LETTERS, LETTERS + "?OCILJXYZ"):
            wanted = mark == "?" or mark == letter
            for group in groups:
                wanted = wanted or (mark in group.upper() and letter in group)
            self.assertIs(bounds.seen(3, mark).fits(Sign(letter)), wanted, letter + " " + mark)

    def test_every_place_is_looked_at(self):
        for width in range(1, 9):
            text = "abcdefgh"[:width]
            for place in range(width):
                right = "?" * place + text[place] + "?" * (width - place - 1)
                wrong = "?" * place + "-" + "?" * (width - place - 1)
                self.assertIs(Record(width).seen(0, right).fits(Sign(text)), True)
                self.assertIs(Record(width).seen(0, wrong).fits(Sign(text)), False)

    def test_every_glance_is_looked_at(self):
        sign = Sign("abcde", -2)
        times = (0, 1, 2, 3, 4, 5, 39, 40, 41, 10 ** 9, GREATEST - 1, GREATEST)
        rows = [(time, window_by_hand("abcde", -2, time, 3)) for time in times]
        for wrong in (None, *range(12)):
            record = Record(3, paces=(-2,))
            for number, (time, window) in enumerate(rows):
                record = record.seen(time, "-" + window[1:] if number == wrong else window)
            self.assertIs(record.fits(sign), wrong is None)

    def test_dead_places_are_not_looked_at(self):
        record = Record(3, dead=(0, 2), paces=(0, 1)).seen(0, "?b?").seen(1, "?c?")
        for first, last in itertools.product(LETTERS[:5], repeat=2):
            self.assertIs(record.fits(Sign(first + "b" + "c" + last)), True)
        self.assertIs(record.fits(Sign("abcd", 0)), False)
        everything = Record(2, dead=(0, 1), most=40, paces=tuple(range(-9, 10))).seen(0, "??").seen(GREATEST, "??")
        for text in LETTERS:
            for pace in range(-9, 10):
                self.assertIs(everything.fits(Sign(text * 40, pace)), True)

    def test_the_lengths_that_are_let(self):
        for least, most in ((1, 1), (1, 20), (2, 4), (7, 7), (20, 40), (40, 40)):
            record = Record(2, least=least, most=most)
            for length in range(1, 41):
                self.assertIs(record.fits(Sign("a" * length)), least <= length <= most)
                self.assertIs(record.seen(1, "a?").fits(Sign("a" * length)), least <= length <= most)
                self.assertIs(record.seen(1, "b?").fits(Sign("a" * length)), False)
        for length in range(1, 41):
            self.assertIs(Record(2).fits(Sign("a" * length)), length <= 20)

    def test_the_paces_that_are_let(self):
        for paces in ((1,), (0,), (-9,), (9,), (-9, 9), (-1, 0, 1), tuple(range(-9, 10))):
            record = Record(2, paces=paces)
            for pace in range(-9, 10):
                self.assertIs(record.fits(Sign("ab", pace)), pace in paces)
                self.assertIs(record.seen(0, "ab").fits(Sign("ab", pace)), pace in paces)

    def test_one_text_fits_with_one_pace_and_not_with_another(self):
        record = Record(2, paces=tuple(range(-9, 10))).seen(0, "ab").seen(1, "bc").seen(2, "ca")
        fitting = [pace for pace in range(-9, 10) if record.fits(Sign("abc", pace))]
        self.assertEqual(fitting, [-8, -5, -2, 1, 4, 7])

    def test_windows_wider_than_the_text(self):
        self.assertIs(Record(8).seen(0, "abababab").fits(Sign("ab")), True)
        self.assertIs(Record(8).seen(0, "abababac").fits(Sign("ab")), False)
        self.assertIs(Record(8).seen(1, "babababa").fits(Sign("ab")), True)
        self.assertIs(Record(5).seen(0, "abca?").fits(Sign("abc")), True)
        self.assertIs(Record(5).seen(0, "abcd?").fits(Sign("abc")), False)

    def test_letter_by_letter(self):
        choice = some("fits")
        fitting = 0
        for number in range(3000):
            groups = choice.choice(((), ("ab",), ("abc", "de"), ("ca",)))
            width = choice.randint(1, 8)
            dead = tuple(place for place in range(width) if choice.random() < 0.2)
            least = choice.randint(1, 6)
            paces = tuple(sorted(choice.sample(range(-9, 10), choice.randint(1, 12))))
            record = Record(width, dead=dead, least=least, most=choice.randint(least, 9), paces=paces, groups=groups)
            sign = Sign("".join(choice.choices("aabcd-", k=choice.randint(1, 9))), choice.choice(paces))
            for glance in range(choice.randint(0, 5)):
                time = choice.choice((choice.randint(0, 30), GREATEST - choice.randint(0, 9)))
                record = record.seen(time, some_reading(choice, record, sign.text, sign.pace, time))
            fitting += self.check(record, sign)
            self.check(record, Sign(sign.text, choice.randint(-9, 9)))
            self.check(record, Sign(sign.text[::-1], sign.pace))
        self.assertTrue(500 < fitting < 2500, fitting)

    def test_by_name(self):
        self.assertIs(Record(2).seen(0, "ab").fits(sign=Sign("ab")), True)
        self.assertIs(Record(2).seen(0, "ab").fits(sign=Sign("ba")), False)

    def test_errors(self):
        for record in (Record(2), Record(2).seen(0, "ab"), crowded(12, Record(2))):
            for wrong in [*NO_INTEGERS, *NO_STRINGS, "ab", ("ab", 1), (Sign("ab"),), [Sign("ab")], Sign, record]:
                self.check_raises(NotASign, "given", wrong, record.fits, wrong)
                self.check_raises(NotASign, "given", wrong, record.fits, sign=wrong)

    def test_nothing_is_changed(self):
        record, sign = Record(2).seen(0, "ab"), Sign("ab")
        record.fits(sign)
        self.assertEqual((record, sign), (Record(2).seen(0, "ab"), Sign("ab")))


class JoinedTest(PromiseTest):
    def test_what_it_tells(self):
        one = Record(3, dead=(1,), least=2, most=10, paces=(-3, 0, 1, 5), groups=("ab", "cd"))
        other = Record(3, dead=(1,), least=4, most=30, paces=(-2, 0, 5, 9), groups=("ab", "cd"))
        one, other = one.seen(9, "A?c").seen(2, "???"), other.seen(9, "A?c").seen(GREATEST, "??-").seen(0, "D??")
        bounds = (3, (1,), 4, 10, (0, 5), ("ab", "cd"))
        self.assertEqual(one.joined(other).told, (*bounds, one.glances + other.glances))
        self.assertEqual(other.joined(one).told, (*bounds, other.glances + one.glances))
        self.assertIs(type(one.joined(other)), Record)
        self.assertEqual(one.joined(other=other), one.joined(other))

    def test_both_are_left_as_they_were(self):
        one, other = Record(2, least=2).seen(0, "ab"), Record(2, most=9, paces=(0, 1)).seen(1, "ba")
        told = (one.told, other.told)
        one.joined(other)
        self.assertEqual((one.told, other.told), told)

    def test_with_itself_and_without_glances(self):
        one = Record(2, least=3, most=7, paces=(-1, 4)).seen(0, "ab")
        self.assertEqual(one.joined(one).glances, ((0, "ab"), (0, "ab")))
        self.assertEqual(one.joined(one).told[:-1], one.told[:-1])
        empty = Record(2, most=40, paces=tuple(range(-9, 10)))
        self.assertEqual(one.joined(empty), one)
        self.assertEqual(empty.joined(one), one)
        self.assertEqual(empty.joined(empty), empty)

    def test_the_lengths_that_both_let(self):
        bounds = [(least, most) for least in (1, 2, 5, 39, 40) for most in (1, 2, 4, 5, 39, 40) if least <= most]
        for one, other in itertools.product(bounds, repeat=2):
            first, second = Record(2, least=one[0], most=one[1]), Record(2, least=other[0], most=other[1])
            least, most = max(one[0], other[0]), min(one[1], other[1])
            if least <= most:
                joined = first.joined(second)
                self.assertEqual((joined.least, joined.most), (least, most))
            else:
                self.check_raises(OtherKind, "given", second, first.joined, second)

    def test_the_paces_that_both_let(self):
        rows = [(0,), (1,), (-9, 9), (-9, 0, 9), (-1, 1), tuple(range(-9, 10)), (2, 3, 4)]
        for one, other in itertools.product(rows, repeat=2):
            first, second = Record(2, paces=one), Record(2, paces=other)
            both = tuple(sorted(set(one) & set(other)))
            if both:
                self.assertEqual(first.joined(second).paces, both)
            else:
                self.check_raises(OtherKind, "given", second, first.joined, second)

    def test_the_signs_that_fit_both(self):
        one = Record(2, most=4, paces=(-1, 1), groups=("ab",)).seen(0, "A?")
        other = Record(2, least=2, paces=(0, 1), groups=("ab",)).seen(1, "c?")
        joined = one.joined(other)
        for length in range(1, 6):
            for letters in itertools.product("abc", repeat=length):
                for pace in (-1, 0, 1):
                    sign = Sign("".join(letters), pace)
                    self.assertIs(joined.fits(sign), one.fits(sign) and other.fits(sign))

    def test_not_a_record(self):
        for record in (Record(2), crowded(12, Record(2))):
            for wrong in NO_RECORDS:
                self.check_raises(NotARecord, "given", wrong, record.joined, wrong)
                self.check_raises(NotARecord, "given", wrong, record.joined, other=wrong)

    def other_kinds(self):
        return [
            Record(2, dead=(1,), groups=("ab", "cd")),
            Record(4, dead=(1,), groups=("ab", "cd")),
            Record(3, dead=(), groups=("ab", "cd")),
            Record(3, dead=(0,), groups=("ab", "cd")),
            Record(3, dead=(1, 2), groups=("ab", "cd")),
            Record(3, dead=(1,), groups=()),
            Record(3, dead=(1,), groups=("ab",)),
            Record(3, dead=(1,), groups=("cd", "ab")),
            Record(3, dead=(1,), groups=("ba", "cd")),
            Record(3, dead=(1,), groups=("ab", "cd", "ef")),
            Record(3, dead=(1,), groups=("ab", "cd"), least=21, most=40),
            Record(3, dead=(1,), groups=("ab", "cd"), paces=(-9, 0, 2, 9)),
        ]

    def test_other_kind(self):
        one = Record(3, dead=(1,), groups=("ab", "cd"))
        for other in self.other_kinds():
            for number in (0, 1):
                first, second = crowded(number, one), crowded(1 - number, other)
                self.check_raises(OtherKind, "given", second, first.joined, second)
                self.check_raises(OtherKind, "given", second, first.joined, other=second)
                self.check_raises(OtherKind, "given", first, second.joined, first)

    def test_too_many(self):
        for first, second in itertools.product(range(13), repeat=2):
            one, other = crowded(first, Record(2)), crowded(second, Record(2))
            if first + second <= 12:
                self.assertEqual(len(one.joined(other)), first + second)
            else:
                self.check_raises(TooMany, "most", 12, one.joined, other)
                self.check_raises(TooMany, "most", 12, one.joined, other=other)

    def test_other_kind_is_told_ahead_of_too_many(self):
        one = crowded(12, Record(3, dead=(1,), groups=("ab", "cd")))
        for other in self.other_kinds():
            full = crowded(12, other)
            self.check_raises(OtherKind, "given", full, one.joined, full)


if __name__ == "__main__":
    unittest.main()

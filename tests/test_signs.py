import doctest
import unittest

from glimpserounds.errors import InvalidPace, InvalidText, InvalidTime, InvalidWidth, NotASign
from glimpserounds.records import Record
from glimpserounds.signs import Sign, first_unlike
from tests.support import GREATEST, LETTERS, NO_INTEGERS, NO_STRINGS, NO_TIMES, NO_WIDTHS, PromiseTest, some
from tests.support import window_by_hand

EXAMPLE = '''
>>> from glimpserounds.signs import Sign, first_unlike
>>> [Sign("ab-").window(10 ** 30, 4), Sign("ab-", -2).window(1, 4), first_unlike(Sign("ab"), Sign("abab"), 3), first_unlike(Sign("abc"), Sign("abd"), 2), str(Sign("a", 0))]
['b-ab', 'b-ab', None, 1, 'a at 0']
'''
TEXTS = ("a", "-", "ab", "z-", "abc", "a-a", "abca", "glimpse", "abcdefghijklmno", LETTERS, "abcde" * 8, "a" * 39 + "b")
TIMES = (*range(12), 39, 40, 41, 80, 10 ** 9 + 7, 10 ** 20 + 1, GREATEST - 1, GREATEST)
PACES = range(-9, 10)
WIDTHS = range(1, 9)

NO_TEXTS = [
    *NO_STRINGS, "", "a" * 41, "ab" * 40, "A", "aB", "ABC", "?", "a?b", "a b", " ", "a\n", "\n", "a_", "0", "a1", "'",
    "`", "{", ",", ".", "\u00e9", "\u00aa", "\u00df", "\u0430", "\u2013", "\u212a", "\uff41", "\udc80", "a\x00",
]
NO_PACES = [*NO_INTEGERS, -10, 10, 11, -40, 10 ** 30, -10 ** 30, 10 ** 39]


def signs():
    return [Sign(text, pace) for text in TEXTS for pace in PACES]


class ExampleTest(unittest.TestCase):
    def test_the_example_of_the_document(self):
        example = doctest.DocTestParser().get_doctest(EXAMPLE, {}, "signs.py", None, 0)
        self.assertEqual(len(example.examples), 2)
        shown = []
        results = doctest.DocTestRunner().run(example, out=shown.append)
        self.assertEqual((results.attempted, results.failed), (2, 0), "".join(shown))


class SignTest(PromiseTest):
    def test_text_and_pace_are_as_they_were_passed(self):
        for text in TEXTS:
            self.assertEqual(Sign(text).text, text)
            self.assertEqual(Sign(text).pace, 1)
            for pace in PACES:
                for sign in (Sign(text, pace), Sign(text, pace=pace), Sign(pace=pace, text=text)):
                    self.assertEqual((sign.text, sign.pace), (text, pace))

    def test_every_letter_and_every_length_can_be(self):
        for letter in LETTERS:
            self.assertEqual(Sign(letter).text, letter)
        for length in range(1, 41):
            self.assertEqual(len(Sign("-" * length)), length)

    def test_len_str_and_repr(self):
        self.assertEqual(str(Sign("ab-", -2)), "ab- at -2")
        self.assertEqual(repr(Sign("ab-", -2)), "Sign(ab- at -2)")
        for text in TEXTS:
            self.assertEqual(str(Sign(text)), text + " at 1")
            for pace in PACES:
                sign = Sign(text, pace)
                self.assertEqual(len(sign), len(text))
                self.assertEqual(str(sign), text + " at " + str(pace))
                self.assertEqual(repr(sign), "Sign(" + text + " at " + str(pace) + ")")
                self.assertIs(bool(sign), True)

    def test_equal_are_those_with_one_text_and_one_pace(self):
        for one in signs():
            again = Sign("".join(list(one.text)), one.pace)
            self.assertIs(one == again, True)
            self.assertIs(one != again, False)
        for text in TEXTS:
            self.assertEqual(Sign(text), Sign(text, 1))
            for pace in PACES:
                for other in PACES:
                    self.assertIs(Sign(text, pace) == Sign(text, other), pace == other)
                    self.assertIs(Sign(text, pace) != Sign(text, other), pace != other)
        for text in TEXTS:
            for other in TEXTS:
                self.assertIs(Sign(text, 3) == Sign(other, 3), text == other)

    def test_signs_that_look_alike_for_ever_are_still_unequal(self):
        self.assertNotEqual(Sign("ab"), Sign("abab"))
        self.assertNotEqual(Sign("a", 1), Sign("a", 2))
        self.assertNotEqual(Sign("ab", 1), Sign("ab", -1))

    def test_unequal_to_values_of_other_classes(self):
        others = [*NO_INTEGERS, *NO_STRINGS, "ab", ("ab", 1), "ab at 1", "Sign(ab at 1)", Record(2), Sign]
        self.check_unequal_to_others(Sign("ab"), others)

    def test_errors_of_the_text(self):
        for text in NO_TEXTS:
            self.check_raises(InvalidText, "given", text, Sign, text)
            self.check_raises(InvalidText, "given", text, Sign, text=text)
            self.check_raises(InvalidText, "given", text, Sign, text, 3)

    def test_errors_of_the_pace(self):
        for pace in NO_PACES:
            self.check_raises(InvalidPace, "given", pace, Sign, "ab", pace)
            self.check_raises(InvalidPace, "given", pace, Sign, "ab", pace=pace)

    def test_the_text_is_checked_ahead_of_the_pace(self):
        rows = [
            ("text", "ab", "aB", InvalidText, "given", "aB"),
            ("pace", 1, 10, InvalidPace, "given", 10),
        ]
        self.check_order(Sign, rows)


class WindowTest(PromiseTest):
    def test_written_out(self):
        cases = [
            ("abc", 1, 0, 3, "abc"), ("abc", 1, 1, 3, "bca"), ("abc", 1, 2, 3, "cab"), ("abc", 1, 3, 3, "abc"),
            ("abc", -1, 1, 3, "cab"), ("abc", -1, 2, 3, "bca"), ("abc", 2, 1, 3, "cab"), ("abc", 0, 99, 3, "abc"),
            ("abcd", 9, 1, 2, "bc"), ("abcd", -9, 1, 2, "da"), ("ab", 1, 1, 8, "babababa"), ("-", 5, 7, 8, "--------"),
            ("abc", 1, GREATEST, 1, "b"), ("abc", -1, GREATEST, 1, "c"), ("abcdefg", 1, GREATEST, 1, "b"),
        ]
        for text, pace, time, width, window in cases:
            with self.subTest(text, pace=pace, time=time, width=width):
                self.assertEqual(Sign(text, pace).window(time, width), window)

    def test_letter_by_letter(self):
        for sign in signs():
            for time in TIMES:
                for width in WIDTHS:
                    window = sign.window(time, width)
                    if window != window_by_hand(sign.text, sign.pace, time, width):
                        self.fail(f"{window!r} is the window of {sign!r} at {time} with {width}")

    def test_by_name_and_with_the_pace_left_out(self):
        for time in TIMES:
            window = window_by_hand("abcdefg", 1, time, 5)
            self.assertEqual(Sign("abcdefg").window(time, 5), window)
            self.assertEqual(Sign("abcdefg").window(width=5, time=time), window)
            self.assertEqual(Sign("abcdefg").window(time, width=5), window)

    def test_a_window_leaves_the_sign_as_it_was(self):
        sign = Sign("abc", 2)
        self.assertEqual([sign.window(1, 4) for number in range(3)], ["cabc"] * 3)
        self.assertEqual(sign, Sign("abc", 2))

    def test_errors(self):
        window = Sign("abc").window
        for time in NO_TIMES:
            self.check_raises(InvalidTime, "given", time, window, time, 3)
            self.check_raises(InvalidTime, "given", time, window, width=3, time=time)
        for width in NO_WIDTHS:
            self.check_raises(InvalidWidth, "given", width, window, 0, width)
            self.check_raises(InvalidWidth, "given", width, window, width=width, time=GREATEST)

    def test_the_time_is_checked_ahead_of_the_width(self):
        rows = [
            ("time", GREATEST, GREATEST + 1, InvalidTime, "given", GREATEST + 1),
            ("width", 8, 9, InvalidWidth, "given", 9),
        ]
        self.check_order(Sign("abc").window, rows)


class FirstUnlikeTest(PromiseTest):
    def by_hand(self, one, other, width):
        """Both windows come back after the product of the lengths, so no later time needs a look."""
        for time in range(len(one.text) * len(other.text)):
            if window_by_hand(one.text, one.pace, time, width) != window_by_hand(other.text, other.pace, time, width):
                return time
        return None

    def check(self, one, other, width):
        expected = self.by_hand(one, other, width)
        for first, second in ((one, other), (other, one)):
            found = first_unlike(first, second, width)
            if found is not expected and (type(found) is not int or found != expected):
                self.fail(f"{found!r} for {first!r}, {second!r}, {width}, not {expected!r}")
        return expected

    def test_written_out(self):
        cases = [
            (("ab", 1), ("abab", 1), 3, None), (("abc", 1), ("abd", 1), 2, 1), (("abc", 1), ("abd", 1), 3, 0),
            (("a", 1), ("b", 1), 1, 0), (("a", 3), ("aaaa", -2), 8, None), (("ab", 1), ("ab", -1), 8, None),
            (("ab", 2), ("ab", 0), 8, None), (("abc", 1), ("abc", -2), 8, None), (("abc", 1), ("abc", 2), 8, 1),
            (("ab", 0), ("ac", 0), 1, None), (("ab", 0), ("ac", 0), 2, 0), (("abac", 2), ("abad", 2), 1, None),
            (("abac", 2), ("abad", 2), 2, 1), (("abcab", 1), ("abc", 1), 5, 1), (("abcab", 1), ("abc", 1), 6, 0),
            (("ab", 1), ("ba", 1), 1, 0), (("aab", 1), ("aba", -1), 2, 0), (("aba", 1), ("aba", -1), 1, 1),
        ]
        for one, other, width, time in cases:
            with self.subTest(one=one, other=other, width=width):
                self.assertEqual(first_unlike(Sign(*one), Sign(*other), width), time)

    def test_a_sign_is_alike_to_itself_for_ever(self):
        for sign in signs()[::7]:
            for width in WIDTHS:
                self.assertIsNone(first_unlike(sign, sign, width))
                self.assertIsNone(first_unlike(sign, Sign(sign.text, sign.pace), width))

    def test_the_latest_times(self):
        one, other = Sign("a" * 38 + "b"), Sign("a" * 38 + "ba")
        self.assertEqual(first_unlike(one, other, 1), 77)
        self.assertEqual([self.check(one, other, width) for width in WIDTHS], [77, 76, 75, 74, 73, 72, 71, 70])
        self.assertEqual(first_unlike(Sign("a" * 39 + "b"), Sign("a"), 1), 39)
        self.assertEqual(first_unlike(Sign("a" * 40), Sign("ab" + "a" * 38, -1), 1), 39)
        self.assertEqual(first_unlike(Sign("a" * 40), Sign("a" * 37 + "baa", 3), 1), 39)
        for shift in range(40):
            self.check(Sign("a" * shift + "b" + "a" * (39 - shift), 9), Sign("a" * 39, 7), 1)

    def test_all_short_signs_of_two_letters(self):
        texts = [first + second + third for first in ("", "a", "b") for second in ("", "a", "b") for third in "ab"]
        rows = [Sign(text, pace) for text in sorted(set(texts)) for pace in (-2, -1, 0, 1, 3)]
        alike = 0
        for one in rows:
            for other in rows:
                for width in (1, 2, 3):
                    alike += self.check(one, other, width) is None
        self.assertGreater(alike, 300)

    def test_signs_of_unlike_lengths_and_paces(self):
        choice = some("first unlike")
        late = alike = 0
        for number in range(1200):
            one = Sign("".join(choice.choices("aaab", k=choice.randint(1, 13))), choice.randint(-9, 9))
            text = one.text * choice.randint(1, 3)
            pace = choice.choice((one.pace, one.pace, choice.randint(-9, 9)))
            if choice.random() < 0.5:
                place = choice.randrange(len(text))
                text = text[:place] + choice.choice("ab-") + text[place + 1:]
            time = self.check(one, Sign(text, pace), choice.randint(1, 8))
            alike += time is None
            late += time is not None and time > 8
        self.assertGreater(alike, 100)
        self.assertGreater(late, 10)

    def test_by_name(self):
        self.assertEqual(first_unlike(width=2, other=Sign("abd"), sign=Sign("abc")), 1)

    def test_the_signs_are_left_as_they_were(self):
        one, other = Sign("ab", 2), Sign("abab", -2)
        first_unlike(one, other, 3)
        self.assertEqual([one, other], [Sign("ab", 2), Sign("abab", -2)])

    def test_errors(self):
        sign = Sign("ab")
        for wrong in [*NO_INTEGERS, *NO_STRINGS, "ab", ("ab", 1), [sign], (sign,), Sign, Record(2)]:
            self.check_raises(NotASign, "given", wrong, first_unlike, wrong, sign, 2)
            self.check_raises(NotASign, "given", wrong, first_unlike, sign, wrong, 2)
            self.check_raises(NotASign, "given", wrong, first_unlike, width=2, other=wrong, sign=sign)
        for width in NO_WIDTHS:
            self.check_raises(InvalidWidth, "given", width, first_unlike, sign, sign, width)
            self.check_raises(InvalidWidth, "given", width, first_unlike, sign, Sign("b"), width=width)

    def test_the_order_of_the_checks(self):
        rows = [
            ("sign", Sign("ab"), "ab", NotASign, "given", "ab"),
            ("other", Sign("ba"), "ba", NotASign, "given", "ba"),
            ("width", 1, 0, InvalidWidth, "given", 0),
        ]
        self.check_order(first_unlike, rows)


if __name__ == "__main__":
    unittest.main()

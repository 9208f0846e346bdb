import unittest

from glimpserounds.errors import InvalidPlace, InvalidTime, InvalidWindow, NotARecord
from glimpserounds.letters import can, letters, must, sure
from glimpserounds.records import Record
from tests.listing import ALL, FEW, possible_by_hand, some_long_record, some_record, some_time, some_window
from tests.support import GREATEST, LETTERS, NO_INTEGERS, NO_RECORDS, NO_TIMES, NO_WINDOWS, PromiseTest
from tests.support import agrees_by_hand, crowded, same, some, window_by_hand

ALL_PACES = tuple(range(-9, 10))
NO_FIT = [
    Record(2, most=1).seen(0, "ab"),
    Record(2).seen(5, "a?").seen(5, "b?"),
    Record(2, paces=(0,), groups=("ab",)).seen(0, "A?").seen(GREATEST, "-?"),
    Record(2, dead=(1,), groups=("ab", "cd")).seen(3, "A?").seen(3, "D?"),
]


class WrittenOutTest(PromiseTest):
    def test_without_glances_every_letter_can_be(self):
        record = Record(8, dead=(2,), most=40, paces=ALL_PACES)
        for time in (0, 1, 40, GREATEST):
            for place in range(8):
                self.assertEqual(letters(record, time, place), LETTERS)
            self.assertEqual(sure(record, time), "????????")

    def test_one_sign_alone(self):
        record = Record(4, least=3, most=3, paces=(-2,)).seen(0, "ab-?")
        for time in (0, 1, 2, 3, 100, GREATEST - 1, GREATEST):
            window = window_by_hand("ab-", -2, time, 4)
            self.assertEqual(sure(record, time), window)
            self.assertEqual("".join(letters(record, time, place) for place in range(4)), window)
            self.assertIs(can(record, time, window), True)
            self.assertIs(must(record, time, window), True)
            self.assertIs(must(record, time, "??" + window[2:]), True)
            self.assertIs(can(record, time, "c???"), False)
            self.assertIs(must(record, time, "c???"), False)
            self.assertIs(must(record, time, "????"), True)

    def test_dead_places_are_asked_for_like_others(self):
        record = Record(3, dead=(1,), least=3, most=3).seen(0, "a?c").seen(1, "b??")
        self.assertEqual([letters(record, 0, place) for place in range(3)], ["a", "b", "c"])
        self.assertEqual(sure(record, 0), "abc")
        self.assertEqual(sure(record, GREATEST), "bca")
        self.assertIs(can(record, 0, "abc"), True)
        self.assertIs(can(record, 0, "aac"), False)
        self.assertIs(must(record, 0, "?b?"), True)
        blind = Record(2, dead=(0, 1), most=2).seen(7, "??")
        self.assertEqual(sure(blind, 7), "??")
        self.assertIs(can(blind, 7, "ab"), True)
        self.assertIs(can(blind.seen(3, "??"), 7, "z-"), True)
        self.assertIs(must(blind, 7, "a?"), False)

    def test_letters_are_ascending_and_each_stands_once(self):
        record = Record(1, most=2, groups=("zoc",), paces=(0, 1)).seen(0, "Z")
        self.assertEqual(letters(record, 0, 0), "coz")
        self.assertEqual(letters(record.seen(0, "o"), 0, 0), "o")
        # With the length 1 or the pace 0 it is the letter that was seen, otherwise any one.
        self.assertEqual(letters(record.seen(0, "o"), 1, 0), LETTERS)
        either = Record(1, least=2, most=2, paces=(0, 1)).seen(0, "b").seen(1, "?")
        self.assertEqual(letters(either, 2, 0), "b")
        two = Record(2, least=2, most=2, paces=(0, 1)).seen(0, "b-")
        self.assertEqual(letters(two, 1, 0), "-b")
        self.assertEqual(sure(two, 1), "??")
        self.assertEqual(sure(two, 2), "b-")

    def test_can_looks_at_all_places_of_one_sign(self):
        record = Record(2, least=2, most=2, paces=(0, 1)).seen(0, "b-")
        self.assertEqual([letters(record, 1, 0), letters(record, 1, 1)], ["-b", "-b"])
        self.assertEqual([can(record, 1, window) for window in ("b-", "-b", "bb", "--")], [True, True, False, False])
        self.assertIs(must(record, 1, "b-"), False)
        narrow = Record(3, least=2, most=2)
        self.assertEqual([can(narrow, 0, window) for window in ("aba", "abb", "a?b", "???")], [True, False, False, True])
        self.assertIs(must(narrow, 0, "???"), True)

    def test_groups_in_the_window(self):
        record = Record(2, least=2, most=2, groups=("abc", "de")).seen(0, "Ad")
        self.assertEqual([can(record, 0, window) for window in ("BD", "BE", "cd", "a?")], [True] * 4)
        self.assertEqual([can(record, 0, window) for window in ("D?", "?A", "?e", "-?")], [False] * 4)
        self.assertEqual([must(record, 0, window) for window in ("A?", "BE", "CD", "?d", "?D", "??")], [True] * 6)
        self.assertEqual([must(record, 0, window) for window in ("a?", "b?", "?e", "?A", "?-", "ad")], [False] * 6)

    def test_beside_twelve_glances(self):
        record = crowded(12, Record(2, most=3))
        self.assertIs(can(record, 99, "ab"), True)
        self.assertIs(must(record, 99, "ab"), False)
        self.assertEqual(letters(record, 99, 1), LETTERS)

    def test_records_that_no_sign_fits(self):
        for record in NO_FIT:
            for time in (0, 5, GREATEST):
                self.assertEqual([letters(record, time, 0), letters(record, time, 1)], ["", ""])
                self.assertIs(sure(record, time), None)
                for window in ("??", "a?", "-z"):
                    self.assertIs(can(record, time, window), False)
                    self.assertIs(must(record, time, window), True)


class ListingTest(PromiseTest):
    def check(self, choice, listing, record):
        signs = listing.fitting(record)
        width = record.width
        for time in {0, some_time(choice), *[time for time, reading in record.glances]}:
            shown = [listing.shown(signs, time, place, width) for place in range(width)]
            self.assertEqual([letters(record, time, place) for place in range(width)], shown, (record.told, time))
            wanted = "".join(row if len(row) == 1 else "?" for row in shown) if signs else None
            self.assertEqual(sure(record, time), wanted, (record.told, time))
            windows = {window_by_hand(text, pace, time, width) for text, pace in signs}
            for number in range(4):
                reading = some_window(choice, record, signs)
                agree = [agrees_by_hand(window, reading, record.groups) for window in windows]
                self.assertIs(can(record, time, reading), any(agree), (record.told, time, reading))
                self.assertIs(must(record, time, reading), all(agree), (record.told, time, reading))
                self.asked[any(agree), all(agree)] = self.asked.get((any(agree), all(agree)), 0) + 1

    def test_beside_all_signs_of_few_letters(self):
        self.asked = {}
        choice = some("letters of few")
        for number in range(150):
            self.check(choice, FEW, some_record(choice))
        self.assertGreater(min(self.asked.get(key, 0) for key in ((True, True), (True, False), (False, False))), 100)
        self.assertGreater(self.asked.get((False, True), 0), 20)

    def test_beside_all_signs_of_all_letters(self):
        self.asked = {}
        choice = some("letters of all")
        for number in range(40):
            self.check(choice, ALL, some_record(choice, longest=2))
        self.assertGreater(min(self.asked.get(key, 0) for key in ((True, True), (True, False), (False, False))), 10)


class LongTest(PromiseTest):
    def test_long_texts_letter_by_letter(self):
        choice = some("long letters")
        told = 0
        for number in range(50):
            record = some_long_record(choice, glances=12)
            rows = possible_by_hand(record)
            for time in (0, choice.randint(0, GREATEST), GREATEST, *[time for time, reading in record.glances[:2]]):
                shown = [
                    set().union(*[sets[(place + pace * time) % length] for (length, pace), sets in rows.items()])
                    for place in range(record.width)
                ]
                found = [letters(record, time, place) for place in range(record.width)]
                self.assertEqual(found, ["".join(sorted(row)) for row in shown])
                window = "".join(min(row) if len(row) == 1 else "?" for row in shown)
                self.assertEqual(sure(record, time), window)
                told += window.strip("?") != ""
                self.assertIs(must(record, time, window), True)
                self.assertIs(can(record, time, window), True)
                for place, row in enumerate(shown):
                    for letter in ("a", "-", min(row)):
                        reading = "?" * place + letter + "?" * (record.width - place - 1)
                        self.assertIs(can(record, time, reading), letter in row)
                        self.assertIs(must(record, time, reading), row == {letter})
        self.assertGreater(told, 100)


class ArgumentsTest(PromiseTest):
    def setUp(self):
        self.record = Record(3, dead=(1,), most=4, groups=("ab",)).seen(0, "A??")

    def test_not_a_record(self):
        for wrong in NO_RECORDS:
            self.check_raises(NotARecord, "given", wrong, letters, wrong, 0, 0)
            self.check_raises(NotARecord, "given", wrong, letters, place=0, time=0, record=wrong)
            self.check_raises(NotARecord, "given", wrong, sure, wrong, 0)
            self.check_raises(NotARecord, "given", wrong, sure, time=0, record=wrong)
            for call in (can, must):
                self.check_raises(NotARecord, "given", wrong, call, wrong, 0, "???")
                self.check_raises(NotARecord, "given", wrong, call, window="???", time=0, record=wrong)

    def test_times(self):
        for record in (self.record, *NO_FIT):
            for wrong in NO_TIMES:
                self.check_raises(InvalidTime, "given", wrong, letters, record, wrong, 0)
                self.check_raises(InvalidTime, "given", wrong, letters, place=0, time=wrong, record=record)
                self.check_raises(InvalidTime, "given", wrong, sure, record, wrong)
                self.check_raises(InvalidTime, "given", wrong, sure, time=wrong, record=record)
                for call in (can, must):
                    window = "?" * record.width
                    self.check_raises(InvalidTime, "given", wrong, call, record, wrong, window)
                    self.check_raises(InvalidTime, "given", wrong, call, window=window, time=wrong, record=record)

    def test_places(self):
        for width in range(1, 9):
            record = Record(width, most=2)
            for place in range(width):
                self.assertEqual(letters(record, 0, place), LETTERS)
            for wrong in [*NO_INTEGERS, -1, -width, width, width + 1, GREATEST, -GREATEST]:
                self.check_raises(InvalidPlace, "given", wrong, letters, record, 0, wrong)
                self.check_raises(InvalidPlace, "given", wrong, letters, place=wrong, time=0, record=record)
        self.check_raises(InvalidPlace, "given", 2, letters, NO_FIT[0], 0, 2)

    def test_windows(self):
        for call in (can, must):
            for wrong in NO_WINDOWS:
                self.check_raises(InvalidWindow, "given", wrong, call, self.record, 0, wrong)
                self.check_raises(InvalidWindow, "given", wrong, call, window=wrong, time=0, record=self.record)
            for mark in LETTERS[1:].upper():
                if mark not in "AB":
                    self.check_raises(InvalidWindow, "given", mark + "??", call, self.record, 0, mark + "??")
            self.check_raises(InvalidWindow, "given", "a??", call, NO_FIT[0], 0, "a??")
            for mark in LETTERS + "?AB":
                self.assertIs(type(call(self.record, 0, mark * 3)), bool)

    def test_the_order_of_the_checks(self):
        record = ("record", self.record, self.record.told, NotARecord, "given", self.record.told)
        time = ("time", GREATEST, GREATEST + 1, InvalidTime, "given", GREATEST + 1)
        window = ("window", "aBc", "aBC", InvalidWindow, "given", "aBC")
        place = ("place", 2, 3, InvalidPlace, "given", 3)
        self.check_order(letters, [record, time, place])
        self.check_order(sure, [record, time])
        self.check_order(can, [record, time, window])
        self.check_order(must, [record, time, window])

    def test_a_wrong_record_is_told_ahead_of_a_place_that_no_record_has(self):
        self.check_raises(NotARecord, "given", None, letters, None, None, None)
        self.check_raises(NotARecord, "given", None, can, None, None, None)

    def test_by_name(self):
        self.assertEqual(letters(place=0, time=0, record=self.record), "ab")
        self.assertEqual(sure(time=0, record=self.record), "???")
        self.assertIs(can(window="b??", time=0, record=self.record), True)
        self.assertIs(must(window="B??", time=0, record=self.record), True)

    def test_nothing_is_changed(self):
        told = self.record.told
        for call, rest in ((letters, (5, 1)), (sure, (5,)), (can, (5, "abc")), (must, (5, "a??"))):
            first = call(self.record, *rest)
            self.assertTrue(same(call(self.record, *rest), first))
            self.assertEqual(self.record.told, told)
            self.assertEqual(self.record, Record(3, dead=(1,), most=4, groups=("ab",)).seen(0, "A??"))


if __name__ == "__main__":
    unittest.main()

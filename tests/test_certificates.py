import unittest

from glimpserounds.beside import apart, implies
from glimpserounds.certificates import certify_apart, certify_barred, certify_can, certify_implies, certify_must
from glimpserounds.checker import accepts
from glimpserounds.errors import InvalidLength, InvalidPace, InvalidTime, InvalidWindow, NotARecord
from glimpserounds.letters import can, must
from glimpserounds.pairs import pairs
from glimpserounds.records import Record
from tests.listing import ALL, FEW, cut, possible_by_hand, sharpened, some_long_record, some_record, some_time
from tests.listing import some_window
from tests.proofs import accepts_by_hand
from tests.support import GREATEST, NO_INTEGERS, NO_RECORDS, NO_TIMES, NO_WINDOWS, PromiseTest, agrees_by_hand
from tests.support import crowded, same, some, window_by_hand

ALL_PACES = tuple(range(-9, 10))
NO_FIT = [
    Record(2, most=1).seen(0, "ab"),
    Record(1).seen(5, "a").seen(5, "b"),
    Record(3, paces=(0,), groups=("ab",)).seen(0, "A??").seen(GREATEST, "-??"),
    Record(2, dead=(1,), groups=("ab", "cd")).seen(3, "A?").seen(3, "D?"),
]
ASKING = {"can": certify_can, "must": certify_must}
BESIDE = {"implies": certify_implies, "apart": certify_apart}


class CertificateTest(PromiseTest):
    def check_paper(self, paper, claim, wanted):
        """The paper is None if the claim is not so, otherwise it is the claim with a certificate that is accepted."""
        if not wanted:
            self.assertIs(paper, None, claim)
            return
        self.assertIs(type(paper), tuple, claim)
        self.assertEqual(len(paper), 2)
        self.assertTrue(same(paper[0], claim), (paper, claim))
        self.assertIs(accepts(*paper), True, paper)
        self.assertIs(accepts_by_hand(*paper), True, paper)

    def check_barred(self, record, length, pace, wanted):
        paper = certify_barred(record, length, pace)
        self.check_paper(paper, ("barred", record.told, length, pace), wanted)
        if not record.least <= length <= record.most or pace not in record.paces:
            self.assertEqual(paper[1], ())

    def check_asked(self, word, record, time, window, wanted):
        self.check_paper(ASKING[word](record, time, window), (word, record.told, time, window), wanted)

    def check_beside(self, word, one, other, wanted):
        self.check_paper(BESIDE[word](one, other), (word, one.told, other.told), wanted)


class WrittenOutTest(CertificateTest):
    def test_without_glances_nothing_is_barred_that_is_let(self):
        record = Record(8, least=3, most=40, paces=(-9, 0, 9))
        for length in range(1, 41):
            for pace in ALL_PACES:
                self.check_barred(record, length, pace, length < 3 or pace not in (-9, 0, 9))

    def test_one_glance_bars_short_texts(self):
        record = Record(8, most=40, paces=ALL_PACES).seen(GREATEST, "abcdefgh")
        for length in range(1, 41):
            for pace in ALL_PACES:
                self.check_barred(record, length, pace, length < 8)

    def test_records_that_no_sign_fits(self):
        for record in NO_FIT:
            for length in (record.least, record.most, 40):
                for pace in (*record.paces, 9):
                    self.check_barred(record, length, pace, True)
            for time in (0, 5, GREATEST):
                for window in ("?" * record.width, "a" * record.width, "-" * record.width):
                    self.check_asked("can", record, time, window, False)
                    self.check_asked("must", record, time, window, True)
            for other in (*NO_FIT, Record(8, most=40), Record(1, most=1).seen(0, "z"), Record(2, paces=(9,))):
                self.check_beside("implies", record, other, True)
                self.check_beside("apart", record, other, True)
                self.check_beside("apart", other, record, True)
                self.check_beside("implies", other, record, other in NO_FIT)

    def test_letters_at_dead_places(self):
        record = Record(3, dead=(1,), least=3, most=3).seen(0, "a?c").seen(1, "b??")
        self.check_asked("can", record, 0, "abc", True)
        self.check_asked("must", record, 0, "abc", True)
        self.check_asked("must", record, GREATEST, "bca", True)
        self.check_asked("can", record, 0, "aac", False)
        self.check_asked("must", record, 0, "?a?", False)

    def test_groups(self):
        record = Record(1, most=1, groups=("abc", "de")).seen(0, "A")
        for window, sure in (("A", True), ("B", True), ("C", True), ("a", False), ("?", True), ("D", False)):
            self.check_asked("must", record, 7, window, sure)
            self.check_asked("can", record, 7, window, window != "D")
        narrow = record.seen(3, "b")
        for window, sure in (("A", True), ("b", True), ("a", False), ("?", True), ("D", False), ("-", False)):
            self.check_asked("must", narrow, 7, window, sure)
            self.check_asked("can", narrow, 7, window, sure)
        self.check_beside("implies", narrow, record, True)
        self.check_beside("implies", record, narrow, False)

    def test_groups_that_overlap_between_two_records(self):
        one = Record(1, most=1, groups=("abc",)).seen(0, "A")
        other = Record(1, most=1, groups=("cde",)).seen(0, "E")
        for record in (one, other):
            self.check_beside("implies", record, Record(1, groups=("abcde",)).seen(0, "A"), True)
        self.check_beside("apart", one, other, False)
        self.check_beside("implies", one, other, False)
        # What one of the records reads in two glances is as narrow as the narrower one of both.
        self.check_beside("apart", one.seen(1, "a"), other, True)
        self.check_beside("apart", one, other.seen(GREATEST, "e"), True)
        self.check_beside("apart", other.seen(2, "c"), one, False)
        self.check_beside("implies", other.seen(2, "c"), one, True)

    def test_other_bounds(self):
        one = Record(2, least=2, most=3, paces=(1, 2)).seen(0, "ab")
        self.check_beside("implies", one, Record(5, most=40, paces=(0, 1, 2)), True)
        self.check_beside("implies", one, Record(2, least=2, most=2, paces=(1, 2)), False)
        self.check_beside("implies", one, Record(2, least=2, most=3, paces=(2,)), False)
        # The length 3 can be let by the one alone if it is barred there.
        self.check_beside("implies", one.seen(3, "b?"), Record(2, least=2, most=2, paces=(1,)), True)
        for other in (Record(2, most=1, paces=(1, 2)), Record(2, least=4, paces=(1,)), Record(2, paces=(0, 3))):
            self.check_beside("apart", one, other, True)
            self.assertEqual(certify_apart(one, other)[1], ())

    def test_twelve_glances(self):
        record = crowded(12, Record(2, most=3))
        self.check_asked("can", record, 99, "ab", True)
        self.check_asked("must", record, 99, "a?", False)
        self.check_asked("must", record, 99, "??", True)
        self.check_beside("implies", record, Record(2), True)

    def test_any_certificate_is_the_same_for_equal_calls(self):
        def made():
            return Record(3, least=2, most=4, groups=("ab",)).seen(0, "aba").seen(1, "Ba?")

        for first, last in (
            (certify_barred(made(), 3, 1), certify_barred(made(), 3, 1)),
            (certify_can(made(), 5, "?c?"), certify_can(made(), 5, "?c?")),
            (certify_must(made(), 4, "A??"), certify_must(made(), 4, "A??")),
            (certify_implies(made(), made()), certify_implies(made(), made())),
            (certify_apart(made(), NO_FIT[0]), certify_apart(made(), NO_FIT[0])),
        ):
            self.assertEqual(first, last)


class ListingTest(CertificateTest):
    def count(self, word, wanted):
        self.asked[word, wanted] = self.asked.get((word, wanted), 0) + 1

    def check_record(self, choice, listing, record):
        signs = listing.fitting(record)
        there = {(len(text), pace) for text, pace in signs}
        for length in range(1, listing.longest + 2):
            for pace in {*record.paces, choice.choice(ALL_PACES)}:
                self.check_barred(record, length, pace, (length, pace) not in there)
                self.count("barred", (length, pace) not in there)
        for number in range(6):
            time = choice.choice((some_time(choice), *[time for time, reading in record.glances]))
            window = some_window(choice, record, signs)
            shown = {window_by_hand(text, pace, time, record.width) for text, pace in signs}
            agree = [agrees_by_hand(row, window, record.groups) for row in shown]
            self.check_asked("can", record, time, window, any(agree))
            self.check_asked("must", record, time, window, all(agree))
            self.count("can", any(agree))
            self.count("must", all(agree))

    def check_two(self, listing, one, other):
        here, there = set(listing.fitting(one)), set(listing.fitting(other))
        for first, last, first_signs, last_signs in ((one, other, here, there), (other, one, there, here)):
            self.check_beside("implies", first, last, first_signs <= last_signs)
            self.check_beside("apart", first, last, not first_signs & last_signs)
            self.count("implies", first_signs <= last_signs)
            self.count("apart", not first_signs & last_signs)

    def check_some(self, choice, listing, many):
        self.asked = {}
        for number in range(many):
            one = some_record(choice, longest=listing.longest, wrong=0.04)
            self.check_record(choice, listing, one)
            self.check_two(listing, one, some_record(choice, longest=listing.longest))
            self.check_two(listing, one, sharpened(choice, one, listing.fitting(one)))
            if listing is FEW:
                self.check_two(listing, one, cut(choice, one))
        self.assertEqual(len(self.asked), 10)
        self.assertGreater(min(self.asked.values()), many // 2)

    def test_beside_all_signs_of_few_letters(self):
        self.check_some(some("papers of few"), FEW, 100)

    def test_beside_all_signs_of_all_letters(self):
        self.check_some(some("papers of all"), ALL, 40)


class LongTest(CertificateTest):
    def test_long_texts(self):
        choice = some("long papers")
        asked = {}
        for number in range(25):
            one = some_long_record(choice, glances=8, wrong=0.002)
            other = choice.choice((
                some_long_record(choice, glances=2), Record.of((*one.told[:-1], one.glances[:-1])),
                Record.of((*some_long_record(choice, glances=0).told[:2], *one.told[2:6], ())),
            ))
            there = possible_by_hand(one)
            self.assertEqual(tuple(there), pairs(one))
            for length in (one.least, one.most, choice.randint(one.least, one.most)):
                for pace in one.paces:
                    self.check_barred(one, length, pace, (length, pace) not in there)
            for time in (0, GREATEST, choice.randint(0, GREATEST), *[time for time, reading in one.glances[:1]]):
                window = choice.choice(("a", "?", "b")) + "?" * (one.width - 1)
                for word, function in (("can", can), ("must", must)):
                    self.check_asked(word, one, time, window, function(one, time, window))
                    asked[word, function(one, time, window)] = True
            for word, function in (("implies", implies), ("apart", apart)):
                self.check_beside(word, one, other, function(one, other))
                self.check_beside(word, other, one, function(other, one))
                asked[word, function(one, other)] = True
        self.assertEqual(len(asked), 8)

    def test_the_largest_records(self):
        record = Record(8, most=40, paces=ALL_PACES)
        text = "abcabdab-cabdabe" * 2 + "zyxwvut"
        for time in (0, 1, 2, 5, 9, 13, 77, 1000, 12345, GREATEST // 7, GREATEST - 1, GREATEST):
            record = record.seen(time, window_by_hand(text, 3, time, 8))
        self.assertEqual(len(record), 12)
        self.check_beside("implies", record, record, True)
        self.check_beside("apart", record, record, False)
        self.check_asked("can", record, 3, "?" * 8, True)
        self.check_asked("must", record, GREATEST - 1, record.glances[10][1], True)
        self.check_beside("apart", record, Record(1, paces=ALL_PACES, most=40).seen(0, "z"), True)


class ArgumentsTest(CertificateTest):
    def setUp(self):
        self.record = Record(3, dead=(1,), most=4, groups=("ab",)).seen(0, "A??")

    def test_not_a_record(self):
        for wrong in NO_RECORDS:
            self.check_raises(NotARecord, "given", wrong, certify_barred, wrong, 1, 1)
            self.check_raises(NotARecord, "given", wrong, certify_barred, pace=1, length=1, record=wrong)
            for call in ASKING.values():
                self.check_raises(NotARecord, "given", wrong, call, wrong, 0, "???")
                self.check_raises(NotARecord, "given", wrong, call, window="???", time=0, record=wrong)
            for call in BESIDE.values():
                self.check_raises(NotARecord, "given", wrong, call, wrong, self.record)
                self.check_raises(NotARecord, "given", wrong, call, self.record, wrong)
                self.check_raises(NotARecord, "given", wrong, call, other=wrong, one=self.record)
                self.check_raises(NotARecord, "given", wrong, call, other=self.record, one=wrong)

    def test_lengths_and_paces(self):
        for record in (self.record, *NO_FIT):
            for wrong in [*NO_INTEGERS, 0, -1, 41, 400, GREATEST, -GREATEST]:
                self.check_raises(InvalidLength, "given", wrong, certify_barred, record, wrong, 1)
                self.check_raises(InvalidLength, "given", wrong, certify_barred, pace=1, length=wrong, record=record)
            for wrong in [*NO_INTEGERS, 10, -10, 40, GREATEST, -GREATEST]:
                self.check_raises(InvalidPace, "given", wrong, certify_barred, record, 1, wrong)
                self.check_raises(InvalidPace, "given", wrong, certify_barred, pace=wrong, length=40, record=record)

    def test_times_and_windows(self):
        for call in ASKING.values():
            for record in (self.record, NO_FIT[0]):
                window = "?" * record.width
                for wrong in NO_TIMES:
                    self.check_raises(InvalidTime, "given", wrong, call, record, wrong, window)
                    self.check_raises(InvalidTime, "given", wrong, call, window=window, time=wrong, record=record)
            for wrong in NO_WINDOWS:
                self.check_raises(InvalidWindow, "given", wrong, call, self.record, 0, wrong)
                self.check_raises(InvalidWindow, "given", wrong, call, window=wrong, time=0, record=self.record)

    def test_the_order_of_the_checks(self):
        record = ("record", self.record, self.record.told, NotARecord, "given", self.record.told)
        time = ("time", GREATEST, GREATEST + 1, InvalidTime, "given", GREATEST + 1)
        window = ("window", "aBc", "aBC", InvalidWindow, "given", "aBC")
        length = ("length", 40, 41, InvalidLength, "given", 41)
        pace = ("pace", -9, True, InvalidPace, "given", True)
        self.check_order(certify_barred, [record, length, pace])
        for call in ASKING.values():
            self.check_order(call, [record, time, window])
        one = ("one", self.record, "one", NotARecord, "given", "one")
        other = ("other", self.record, "other", NotARecord, "given", "other")
        for call in BESIDE.values():
            self.check_order(call, [one, other])

    def test_by_name(self):
        self.assertEqual(certify_barred(pace=1, length=5, record=self.record), (("barred", self.record.told, 5, 1), ()))
        for call in ASKING.values():
            self.assertEqual(call(window="B??", time=0, record=self.record), call(self.record, 0, "B??"))
        for call in BESIDE.values():
            self.assertEqual(call(other=Record(3), one=self.record), call(self.record, Record(3)))

    def test_nothing_is_changed(self):
        told = self.record.told
        other = Record(1, most=4).seen(3, "z")
        certify_barred(self.record, 1, 1)
        certify_can(self.record, 0, "???")
        certify_must(self.record, 0, "A??")
        certify_implies(self.record, other)
        certify_apart(self.record, other)
        self.assertEqual([self.record.told, other.told], [told, (1, (), 1, 4, (1,), (), ((3, "z"),))])


if __name__ == "__main__":
    unittest.main()

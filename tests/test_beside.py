import itertools
import unittest

from glimpserounds.beside import alike, apart, changes, implies, together
from glimpserounds.errors import NotARecord
from glimpserounds.records import Record
from tests.listing import ALL, FEW, cut, possible_by_hand, sharpened, some_long_record, some_record, texts_by_hand
from tests.support import GREATEST, NO_RECORDS, PromiseTest, crowded, some

ALL_PACES = tuple(range(-9, 10))
NO_FIT = [
    Record(2, most=1).seen(0, "ab"),
    Record(1).seen(5, "a").seen(5, "b"),
    Record(3, paces=(0,), groups=("ab",)).seen(0, "A??").seen(GREATEST, "-??"),
    Record(2, dead=(1,), groups=("ab", "cd")).seen(3, "A?").seen(3, "D?"),
]
SOME_FIT = [Record(2), Record(8, most=40, paces=ALL_PACES), Record(1, most=1).seen(0, "a"), Record(2).seen(0, "ab")]


def turned(text, shift):
    return text[shift:] + text[:shift]


class WrittenOutTest(PromiseTest):
    def test_other_widths(self):
        narrow = Record(1, least=2, most=2).seen(0, "a").seen(1, "b")
        wide = Record(3, least=2, most=2).seen(0, "aba")
        self.assertEqual([implies(narrow, wide), implies(wide, narrow), alike(narrow, wide)], [True, True, True])
        longer = Record(3, least=2, most=4).seen(0, "aba")
        self.assertEqual([implies(narrow, longer), implies(longer, narrow), alike(narrow, longer)], [True, False, False])
        self.assertEqual([apart(narrow, longer), apart(longer, narrow)], [False, False])

    def test_other_lengths_and_paces(self):
        one = Record(2, least=2, most=3, paces=(1, 2))
        self.assertIs(implies(one, Record(5, least=1, most=4, paces=(0, 1, 2))), True)
        for other in (
            Record(2, least=3, most=3, paces=(1, 2)), Record(2, least=2, most=2, paces=(1, 2)),
            Record(2, least=2, most=3, paces=(1,)), Record(2, least=2, most=3, paces=(2, 3)),
        ):
            self.assertEqual([implies(one, other), implies(other, one)], [False, other.paces != (2, 3)])
            self.assertIs(alike(one, other), False)
            self.assertIs(apart(one, other), False)
        for other in (Record(2, most=1, paces=(1, 2)), Record(2, least=4, paces=(1, 2)), Record(2, paces=(0, 3))):
            self.assertEqual([apart(one, other), apart(other, one)], [True, True])
            self.assertEqual([together(one, other), together(other, one)], [(), ()])

    def test_only_lengths_and_paces_that_can_be_count(self):
        one = Record(2, least=1, most=4, paces=(0, 1)).seen(0, "ab").seen(1, "ba").seen(2, "ab").seen(3, "b?")
        other = Record(2, least=2, most=6, paces=(1,)).seen(1, "b?")
        self.assertIs(implies(one, other), True)
        # Without the glance at 1 the pace 0 could be.
        self.assertIs(implies(Record(2, least=1, most=4, paces=(0, 1)).seen(0, "ab"), other), False)

    def test_other_groups(self):
        one = Record(1, most=1, groups=("ab",)).seen(0, "A")
        wider = Record(1, most=1, groups=("abc",)).seen(0, "C")
        beside = Record(1, most=1, groups=("bc", "ad")).seen(0, "B")
        self.assertEqual([implies(one, wider), implies(wider, one)], [True, False])
        self.assertEqual([implies(one, beside), implies(beside, one), apart(one, beside)], [False, False, False])
        self.assertIs(apart(one, Record(1, most=1, groups=("bc", "yz")).seen(0, "Y")), True)
        self.assertIs(alike(one, Record(1, most=1, groups=("ba", "cd")).seen(GREATEST, "B")), True)
        self.assertIs(alike(beside.seen(0, "B"), Record(1, most=1, groups=("cb",)).seen(3, "C")), True)

    def test_what_several_glances_tell_together(self):
        one = Record(1, most=1, groups=("ab",)).seen(0, "A")
        other = Record(1, most=1, groups=("bc",)).seen(0, "B")
        both = Record(1, most=1).seen(0, "b")
        for record, implied in ((one, True), (other, True), (both, True)):
            self.assertIs(implies(both, record), implied)
        self.assertEqual([implies(one, both), implies(other, both), apart(one, other)], [False, False, False])

    def test_together_with_itself_has_the_shift_0(self):
        record = Record(2, least=1, most=3, paces=(-1, 2)).seen(0, "ab")
        found = together(record, record)
        self.assertEqual([row for row in found if row[2] == 0], [(length, pace, 0) for length in (2, 3) for pace in (-1, 2)])
        self.assertIs(type(found), tuple)
        self.assertEqual({type(row) for row in found}, {tuple})
        self.assertEqual(found, tuple(sorted(found)))

    def test_the_shift_goes_from_the_one_to_the_other(self):
        one = Record(3, least=3, most=3).seen(0, "abc")
        for shift, window in enumerate(("abc", "bca", "cab")):
            other = Record(3, least=3, most=3).seen(0, window)
            self.assertEqual(together(one, other), ((3, 1, shift),))
            self.assertEqual(together(other, one), ((3, 1, -shift % 3),))
            # The text of the other sign goes round as well, so that it was elsewhere at another time.
            later = Record(3, least=3, most=3).seen(GREATEST, window)
            self.assertEqual(together(one, later), ((3, 1, (shift - 1) % 3),))

    def test_without_glances_every_shift(self):
        wanted = tuple((length, pace, shift) for length in (1, 2, 3, 4) for pace in (0, 5) for shift in range(length))
        self.assertEqual(together(Record(1, most=4, paces=(0, 5)), Record(8, paces=(-9, 0, 5, 6))), wanted)

    def test_long_texts(self):
        record = Record(8, least=40, most=40, paces=(9,)).seen(0, "abcdefgh")
        self.assertEqual(together(record, record), tuple((40, 9, shift) for shift in (0, *range(8, 33))))

    def test_changes(self):
        record = Record(2, least=2, most=2)
        self.assertEqual(changes(record), (0,))
        self.assertEqual(changes(crowded(12, record)), tuple(range(13)))
        self.assertEqual(changes(record.seen(0, "ab")), (0, 1))
        self.assertEqual(changes(record.seen(0, "ab").seen(1, "ab")), (1,))
        self.assertEqual(changes(record.seen(0, "ab").seen(1, "ba").seen(2, "cb").seen(3, "bc")), (2,))
        self.assertEqual(changes(record.seen(0, "ab").seen(1, "??").seen(2, "cb").seen(3, "bc")), (1, 2))
        self.assertEqual(changes(record.seen(0, "ab").seen(2, "cd").seen(4, "ef")), ())
        self.assertEqual(changes(record.seen(0, "ab").seen(GREATEST, "ab")), (0, 1, 2))

    def test_changes_go_by_the_times(self):
        record = Record(2, least=2, most=2)
        glances = ((7, "ba"), (1, "dc"), (GREATEST, "ab"), (0, "cd"))
        for order in itertools.permutations(glances):
            shuffled = record
            for time, reading in order:
                shuffled = shuffled.seen(time, reading)
            self.assertEqual(changes(shuffled), (2,))

    def test_glances_with_one_time_stay_as_they_are(self):
        record = Record(1, most=1).seen(5, "a").seen(5, "b").seen(5, "?").seen(3, "a")
        self.assertEqual(changes(record), (2,))
        back = Record(1, most=1).seen(5, "?").seen(5, "b").seen(5, "a").seen(3, "a")
        self.assertEqual(changes(back), ())
        self.assertEqual(changes(Record(1, most=1).seen(5, "?").seen(5, "b").seen(3, "a").seen(5, "?")), (1, 2))

    def test_a_glance_that_can_be_for_no_sign(self):
        self.assertEqual(changes(Record(2, most=1).seen(0, "ab")), ())
        self.assertEqual(changes(Record(2, most=1).seen(0, "aa").seen(1, "ab").seen(2, "aa")), ())

    def test_records_that_no_sign_fits(self):
        for record in NO_FIT:
            for other in [*SOME_FIT, *NO_FIT]:
                self.assertIs(implies(record, other), True)
                self.assertIs(implies(other, record), other in NO_FIT)
                self.assertIs(alike(record, other), other in NO_FIT)
                self.assertIs(alike(other, record), other in NO_FIT)
                self.assertEqual([apart(record, other), apart(other, record)], [True, True])
                self.assertEqual([together(record, other), together(other, record)], [(), ()])


class ListingTest(PromiseTest):
    def check(self, listing, one, other):
        first, last = listing.fitting(one), listing.fitting(other)
        here, there = set(first), set(last)
        told = (one.told, other.told)
        self.assertIs(implies(one, other), here <= there, told)
        self.assertIs(implies(other, one), there <= here, told)
        self.assertIs(alike(one, other), here == there, told)
        self.assertIs(apart(one, other), not here & there, told)
        wanted = {
            (len(text), pace, shift) for text, pace in first for shift in range(len(text))
            if (turned(text, shift), pace) in there
        }
        self.assertEqual(together(one, other), tuple(sorted(wanted)), told)
        for answer in (here <= there, ("apart", not here & there), ("alike", here == there)):
            self.asked[answer] = self.asked.get(answer, 0) + 1

    def check_some(self, choice, listing, many):
        self.asked = {}
        for number in range(many):
            one = some_record(choice, longest=listing.longest)
            signs = listing.fitting(one)
            self.check(listing, one, some_record(choice, longest=listing.longest))
            self.check(listing, one, sharpened(choice, one, signs))
            if listing is FEW:
                self.check(listing, one, cut(choice, one))
        self.assertEqual(len(self.asked), 6)
        self.assertGreater(min(self.asked.values()), many // 10)

    def test_beside_all_signs_of_few_letters(self):
        self.check_some(some("beside few"), FEW, 120)

    def test_beside_all_signs_of_all_letters(self):
        self.check_some(some("beside all"), ALL, 50)

    def check_changes(self, listing, record):
        rows = sorted(enumerate(record.glances), key=lambda row: (row[1][0], row[0]))
        glances = tuple(glance for at, glance in rows)
        bounds = record.told[:-1]
        wanted = tuple(
            number for number in range(len(glances) + 1)
            if listing.fitting(Record.of((*bounds, glances[:number])))
            and listing.fitting(Record.of((*bounds, glances[number:])))
        )
        self.assertEqual(changes(record), wanted, record.told)
        return wanted

    def test_changes_beside_all_signs(self):
        choice = some("changes")
        found = []
        for number in range(150):
            record = some_record(choice, longest=3, wrong=0.12, most=6)
            found.append((len(record), self.check_changes(FEW, record)))
        for number in range(40):
            record = some_record(choice, longest=2, wrong=0.12, most=6)
            found.append((len(record), self.check_changes(ALL, record)))
        self.assertGreater(len([row for many, row in found if row == ()]), 5)
        self.assertGreater(len([row for many, row in found if 0 < len(row) <= many]), 20)


class LongTest(PromiseTest):
    def test_long_texts_letter_by_letter(self):
        choice = some("long beside")
        asked = {}
        for number in range(40):
            one = some_long_record(choice, glances=5)
            other = some_long_record(choice, glances=2)
            bounds = (*other.told[:2], *one.told[2:5], *other.told[5:])
            other = choice.choice((other, Record.of(bounds), Record.of((*one.told[:-1], one.glances[:-1]))))
            first = possible_by_hand(one)
            last = {pair: texts_by_hand(other.told, *pair) for pair in first}
            wanted = all(last[pair] is not None and all(map(set.issubset, first[pair], last[pair])) for pair in first)
            self.assertIs(implies(one, other), wanted)
            found = tuple(
                (length, pace, shift) for length, pace in first if last[length, pace] is not None
                for shift in range(length)
                if all(map(set.__and__, turned(first[length, pace], shift), last[length, pace]))
            )
            self.assertEqual(together(one, other), found)
            self.assertIs(apart(one, other), not [row for row in found if row[2] == 0])
            asked[wanted, apart(one, other)] = asked.get((wanted, apart(one, other)), 0) + 1
        self.assertGreater(asked.get((True, False), 0), 5)
        self.assertGreater(asked.get((False, True), 0), 5)
        self.assertGreater(asked.get((False, False), 0), 0)


class ArgumentsTest(PromiseTest):
    def test_not_a_record(self):
        for call in (implies, alike, apart, together):
            for record in (Record(2, most=3).seen(0, "ab"), NO_FIT[0]):
                for wrong in NO_RECORDS:
                    self.check_raises(NotARecord, "given", wrong, call, wrong, record)
                    self.check_raises(NotARecord, "given", wrong, call, record, wrong)
                    self.check_raises(NotARecord, "given", wrong, call, other=record, one=wrong)
                    self.check_raises(NotARecord, "given", wrong, call, other=wrong, one=record)
        for wrong in NO_RECORDS:
            self.check_raises(NotARecord, "given", wrong, changes, wrong)
            self.check_raises(NotARecord, "given", wrong, changes, record=wrong)

    def test_the_order_of_the_checks(self):
        record = Record(2, most=3)
        rows = [
            ("one", record, "one", NotARecord, "given", "one"),
            ("other", record, "other", NotARecord, "given", "other"),
        ]
        for call in (implies, alike, apart, together):
            self.check_order(call, rows)

    def test_by_name(self):
        one, other = Record(2, most=3).seen(0, "ab"), Record(1, most=3).seen(0, "a")
        for call in (implies, alike, apart, together):
            self.assertEqual(call(other=other, one=one), call(one, other))
        self.assertEqual([implies(other=other, one=one), implies(other=one, one=other)], [True, False])
        self.assertEqual(changes(record=one), changes(one))

    def test_nothing_is_changed(self):
        one = Record(2, most=3, groups=("ab",)).seen(9, "A?").seen(1, "b-")
        other = Record(1, most=4).seen(3, "a").seen(2, "b")
        told = (one.told, other.told)
        for call in (implies, alike, apart, together):
            self.assertEqual(call(one, other), call(one, other))
            self.assertEqual((one.told, other.told), told)
        self.assertEqual(changes(one), changes(one))
        self.assertEqual((one.told, other.told), told)
        self.assertEqual(one, Record(2, most=3, groups=("ab",)).seen(9, "A?").seen(1, "b-"))


if __name__ == "__main__":
    unittest.main()

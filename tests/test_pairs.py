import itertools
import unittest

from glimpserounds.errors import NotARecord
from glimpserounds.pairs import number_of, pairs, shortest
from glimpserounds.records import Record
from glimpserounds.signs import Sign
from tests.listing import ALL, FEW, possible_by_hand, some_long_record, some_record
from tests.support import GREATEST, LETTERS, NO_RECORDS, PromiseTest, crowded, fits_by_hand, some

ALL_PACES = tuple(range(-9, 10))


class WrittenOutTest(PromiseTest):
    def test_without_glances_all_that_the_bounds_let(self):
        for least, most, paces in ((1, 1, (1,)), (1, 20, (1,)), (2, 4, (-9, 0, 9)), (40, 40, (5,)), (1, 40, ALL_PACES)):
            for record in (Record(8, least=least, most=most, paces=paces), Record(1, least=least, most=most, paces=paces)):
                wanted = tuple(itertools.product(range(least, most + 1), paces))
                number = len(paces) * sum(27 ** length for length in range(least, most + 1))
                for same in (record, crowded(12, record)):
                    self.assertEqual(pairs(same), wanted)
                    self.assertEqual(number_of(same), number)
                    self.assertEqual(shortest(same), Sign("-" * least, paces[0]))

    def test_pairs_are_ascending_rows_of_two(self):
        found = pairs(Record(2, least=1, most=3, paces=(-1, 0, 2)))
        self.assertEqual(found, ((1, -1), (1, 0), (1, 2), (2, -1), (2, 0), (2, 2), (3, -1), (3, 0), (3, 2)))
        self.assertIs(type(found), tuple)
        self.assertEqual({type(pair) for pair in found}, {tuple})

    def test_the_pace_is_told_by_two_times(self):
        record = Record(3, least=3, most=3, paces=ALL_PACES).seen(0, "abc").seen(1, "bca")
        self.assertEqual(pairs(record), tuple((3, pace) for pace in (-8, -5, -2, 1, 4, 7)))
        self.assertEqual(number_of(record), 6)
        self.assertEqual(shortest(record), Sign("abc", -8))

    def test_the_length_is_told_by_one_window(self):
        record = Record(8, most=40).seen(0, "abcabcab")
        self.assertEqual(pairs(record), ((3, 1), (6, 1), *[(length, 1) for length in range(8, 41)]))
        self.assertEqual(str(shortest(record)), "abc at 1")
        self.assertEqual(number_of(record), 2 + sum(27 ** (length - 8) for length in range(8, 41)))

    def test_a_far_time(self):
        # 10 ** 30 leaves 1 by 3, and 0 by 2, 4 and 5.
        record = Record(1, least=2, most=5, paces=(1,)).seen(0, "a").seen(GREATEST, "b")
        self.assertEqual(pairs(record), ((3, 1),))
        self.assertEqual(number_of(record), 27)
        self.assertEqual(shortest(record), Sign("ab-"))
        back = Record(1, least=2, most=5, paces=(-1,)).seen(0, "a").seen(GREATEST, "b")
        self.assertEqual(shortest(back), Sign("a-b", -1))

    def test_groups(self):
        record = Record(2, most=2, groups=("oc", "li")).seen(0, "OL")
        self.assertEqual(pairs(record), ((2, 1),))
        self.assertEqual(number_of(record), 4)
        self.assertEqual(shortest(record), Sign("ci"))
        self.assertEqual(number_of(record.seen(2, "C?")), 4)
        self.assertEqual(number_of(record.seen(2, "o?")), 2)
        self.assertEqual(shortest(record.seen(2, "o?")), Sign("oi"))
        self.assertEqual(number_of(record.seen(1, "O?")), 0)
        whole = Record(1, most=1, groups=(LETTERS[:0:-1],)).seen(0, "Q")
        self.assertEqual(number_of(whole), 26)
        self.assertEqual(shortest(whole), Sign("a"))

    def test_alike_for_ever_is_still_counted_apart(self):
        self.assertEqual(number_of(Record(8, least=1, most=3).seen(0, "aaaaaaaa")), 3)
        self.assertEqual(number_of(Record(8, most=1, paces=ALL_PACES).seen(0, "aaaaaaaa")), 19)

    def test_the_shortest_goes_by_length_then_pace_then_text(self):
        record = Record(2, most=4, paces=(-1, 2)).seen(0, "ab").seen(1, "?a")
        self.assertEqual(pairs(record)[0], (2, -1))
        self.assertEqual(shortest(record.seen(0, "?b")), Sign("ab", -1))
        self.assertEqual(shortest(Record(1, paces=(-3, 4)).seen(0, "b").seen(1, "a")), Sign("ba", -3))
        self.assertEqual(shortest(Record(1, paces=(-2, 1)).seen(0, "b").seen(1, "a")), Sign("ba", 1))

    def test_records_that_no_sign_fits(self):
        rows = [
            Record(2, most=1).seen(0, "ab"),
            Record(1).seen(5, "a").seen(5, "b"),
            Record(1, paces=(0,)).seen(0, "a").seen(GREATEST, "b"),
            Record(1, most=40, paces=ALL_PACES, groups=("ab", "cd")).seen(3, "A").seen(3, "D"),
            Record(1, groups=("ab",)).seen(3, "A").seen(3, "-"),
            Record(8, most=7).seen(0, "abcdefgh"),
        ]
        for record in rows:
            self.assertEqual(pairs(record), ())
            self.assertEqual(number_of(record), 0)
            self.assertIs(shortest(record), None)

    def test_dead_places_bound_nothing(self):
        record = Record(3, dead=(0, 1, 2), most=2).seen(0, "???").seen(1, "???")
        self.assertEqual(number_of(record), 27 + 27 ** 2)
        middle = Record(3, dead=(1,), least=3, most=3).seen(0, "a?b")
        self.assertEqual(number_of(middle), 27)
        self.assertEqual(shortest(middle), Sign("a-b"))


class ListingTest(PromiseTest):
    def check(self, listing, record):
        signs = listing.fitting(record)
        self.assertEqual(pairs(record), tuple(sorted({(len(text), pace) for text, pace in signs})), record.told)
        self.assertEqual(number_of(record), listing.number(signs), record.told)
        found = shortest(record)
        if not signs:
            self.assertIs(found, None)
        else:
            length, pace, text = min((len(text), pace, text) for text, pace in signs)
            self.assertEqual(found, Sign(text, pace), record.told)
            self.assertIs(type(found), Sign)
        return len(signs)

    def test_beside_all_signs_of_few_letters(self):
        choice = some("pairs of few letters")
        numbers = [self.check(FEW, some_record(choice)) for number in range(250)]
        self.assertGreater(numbers.count(0), 20)
        self.assertGreater(len([number for number in numbers if number > 10]), 80)

    def test_beside_all_signs_of_all_letters(self):
        choice = some("pairs of all letters")
        numbers = [self.check(ALL, some_record(choice, longest=2)) for number in range(60)]
        self.assertGreater(numbers.count(0), 5)
        self.assertGreater(len([number for number in numbers if number > 26]), 10)


class LongTest(PromiseTest):
    def test_long_texts_letter_by_letter(self):
        choice = some("long pairs")
        several = 0
        for number in range(60):
            record = some_long_record(choice)
            wanted = possible_by_hand(record)
            self.assertEqual(pairs(record), tuple(wanted), record.told)
            several += len(wanted) > 1
            total = 0
            for rows in wanted.values():
                product = 1
                for letters in rows:
                    product *= len(letters)
                total += product
            self.assertEqual(number_of(record), total, record.told)
            length, pace = min(wanted)
            found = shortest(record)
            self.assertEqual(found, Sign("".join(min(letters) for letters in wanted[length, pace]), pace))
            self.assertTrue(fits_by_hand(record.told, found.text, found.pace))
        self.assertGreater(several, 30)

    def test_times_that_are_a_common_round_apart(self):
        # After 2520 steps every text of up to ten letters is where it was.
        choice = some("rounds")
        for number in range(40):
            record = some_record(choice, longest=10)
            later = Record.of((*record.told[:-1], ()))
            for time, reading in record.glances:
                shift = 2520 * choice.randint(1, 10 ** 26)
                later = later.seen(time + shift if time + shift <= GREATEST else time % 2520, reading)
            self.assertEqual(pairs(later), pairs(record))
            self.assertEqual(number_of(later), number_of(record))
            self.assertEqual(shortest(later), shortest(record))


class ArgumentsTest(PromiseTest):
    def test_not_a_record(self):
        for call in (pairs, number_of, shortest):
            for wrong in NO_RECORDS:
                self.check_raises(NotARecord, "given", wrong, call, wrong)
                self.check_raises(NotARecord, "given", wrong, call, record=wrong)

    def test_by_name(self):
        record = Record(2, most=3).seen(0, "ab")
        for call in (pairs, number_of, shortest):
            self.assertEqual(call(record=record), call(record))

    def test_nothing_is_changed(self):
        record = Record(2, most=3, groups=("ab",)).seen(1, "A?").seen(0, "ab")
        told = record.told
        for call in (pairs, number_of, shortest):
            self.assertEqual(call(record), call(record))
            self.assertEqual(record.told, told)
            self.assertEqual(record, Record(2, most=3, groups=("ab",)).seen(1, "A?").seen(0, "ab"))


if __name__ == "__main__":
    unittest.main()

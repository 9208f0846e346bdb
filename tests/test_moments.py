import itertools
import unittest

from glimpserounds.errors import InvalidTime, InvalidTimes, NotARecord, TooMany
from glimpserounds.moments import settles, settling
from glimpserounds.pairs import pairs
from glimpserounds.records import Record
from tests.listing import ALL, FEW, possible_by_hand, some_long_record, some_record, some_time
from tests.support import GREATEST, NO_RECORDS, NO_TIMES, NO_TUPLES, PromiseTest, crowded, some, window_by_hand

ALL_PACES = tuple(range(-9, 10))
NO_FIT = [
    Record(2, most=1).seen(0, "ab"),
    Record(1, most=40, paces=ALL_PACES).seen(5, "a").seen(5, "b"),
    Record(3, paces=(0,), groups=("ab",)).seen(0, "A??").seen(GREATEST, "-??"),
]


def living_places(record):
    return [place for place in range(record.width) if place not in record.dead]


def settles_by_listing(signs, record, times, time):
    """Whether of these signs no two look alike at the times and not at the time."""
    places = living_places(record)
    known = {}
    for text, pace in signs:
        windows = [window_by_hand(text, pace, moment, record.width) for moment in times]
        key = tuple(window[place] for window in windows for place in places)
        window = window_by_hand(text, pace, time, record.width)
        if known.setdefault(key, window) != window:
            return False
    return True


def least_sets(many, good):
    """The sets of indexes that are good while no proper part of them is."""
    sets = [row for size in range(many + 1) for row in itertools.combinations(range(many), size)]
    told = {row: good(row) for row in sets}
    return tuple(
        row for row in sets
        if told[row] and not any(told[part] for part in sets if set(part) < set(row))
    )


def can_part_by_hand(record, one, other, times, time):
    """Whether signs of two pairs can part at the time: all letters that must be equal are walked through."""
    beside = {}
    for moment in times:
        for place in living_places(record):
            first, last = [(who, (place + pace * moment) % length) for who, (length, pace), sets in (one, other)]
            beside.setdefault(first, []).append(last)
            beside.setdefault(last, []).append(first)
    sets = {(who, number): row for who, pair, rows in (one, other) for number, row in enumerate(rows)}
    equal = {}
    for start in sets:
        if start not in equal:
            reached = [start]
            for node in reached:
                reached += [near for near in beside.get(node, []) if near not in reached]
            shared = (len(equal), set.intersection(*[sets[node] for node in reached]))
            equal.update({node: shared for node in reached})
    if not all(row for name, row in equal.values()):
        return False
    for place in range(record.width):
        first, last = [equal[who, (place + pace * time) % length] for who, (length, pace), sets in (one, other)]
        if first[0] != last[0] and len(first[1] | last[1]) > 1:
            return True
    return False


def settles_by_hand(record, possible, times, time):
    return not any(
        can_part_by_hand(record, (0, one, possible[one]), (1, other, possible[other]), times, time)
        for one in possible for other in possible
    )


class WrittenOutTest(PromiseTest):
    def test_the_numbers_that_are_seen(self):
        record = Record(2, least=4, most=4)
        self.assertEqual([settles(record, (time,), 0) for time in range(5)], [True, False, False, False, True])
        self.assertEqual(settling(record, (0, 1, 2, 3), 0), ((0,), (1, 3)))
        self.assertEqual(settling(record, (0, 1, 2, 3), GREATEST), ((0,), (1, 3)))
        self.assertEqual(settling(record, (1, 2, 3, GREATEST), 0), ((3,), (0, 2)))
        self.assertEqual(settling(record, (0, 1, 2, 3, 4), 6), ((2,), (1, 3)))
        self.assertEqual(settling(record, (0, 4, 8), 1), ())
        self.assertEqual(settling(record, (), 1), ())

    def test_what_is_sure_needs_no_time(self):
        record = Record(2, least=4, most=4).seen(0, "ab").seen(2, "a?")
        self.assertEqual(settling(record, (5, 6, 7), 0), ((),))
        self.assertEqual(settling(record, (5, 6, 7), 1), ((),))
        self.assertEqual(settling(record, (5, 6, 7), 2), ((1,), (2,)))
        self.assertEqual([settles(record, (), time) for time in range(4)], [True, True, False, False])

    def test_unlike_letters_of_a_group(self):
        record = Record(1, most=1, groups=("ab",)).seen(0, "A")
        self.assertIs(settles(record, (), 3), False)
        self.assertIs(settles(record.seen(0, "a"), (), 3), True)
        self.assertIs(settles(record, (7,), 3), True)

    def test_all_six_times(self):
        record = Record(6, dead=(1, 2, 3, 4, 5), least=6, most=6)
        self.assertEqual(settling(record, (0, 1, 2, 3, 4, 5), 7), ((0, 1, 2, 3, 4, 5),))
        self.assertEqual(settling(record, (0, 1, 2, 3, 4), 7), ())
        self.assertIs(settles(record, (0, 1, 2, 3, 4, 5), GREATEST), True)
        far = tuple(GREATEST - 9 + time for time in range(6))
        self.assertEqual(settling(record, far, 7), ((0, 1, 2, 3, 4, 5),))

    def test_dead_places_are_not_seen_but_asked_for(self):
        record = Record(3, dead=(1,), least=3, most=3)
        self.assertEqual(settling(record, (0, 1, 2), 0), ((0, 1), (0, 2), (1, 2)))
        blind = Record(3, dead=(0, 1, 2), least=3, most=3)
        self.assertEqual(settling(blind, (0, 1, 2), 0), ())
        self.assertIs(settles(blind, (0,), 0), False)

    def test_signs_of_unlike_lengths(self):
        record = Record(1, least=1, most=3)
        # What shows aba goes on with b if it has two letters, with a if it has three.
        self.assertIs(settles(record, (0, 1, 2), 3), False)
        self.assertIs(settles(record, (0,), 6), True)
        self.assertIs(settles(record, (), 6), False)
        self.assertEqual(settling(record, (0, 1, 2, 4, 6, 7), 12), ((0,), (4,)))
        self.assertIs(settles(Record(1, least=3, most=3), (0, 1, 2), 3), True)

    def test_signs_of_unlike_paces(self):
        record = Record(1, least=2, most=2, paces=(0, 1))
        self.assertEqual(settling(record, (0, 1, 2, 3), 1), ((1,), (3,)))
        self.assertEqual(settling(record, (0, 2, 4), 1), ())
        both = Record(1, least=3, most=3, paces=(-1, 1))
        self.assertEqual(settling(both, (0, 1, 2), 4), ((1,),))
        # abc goes on with c, acb with b, and both begin with a.
        self.assertIs(settles(both, (0, 2), 1), False)

    def test_what_was_seen_bars_pairs(self):
        record = Record(1, least=1, most=3).seen(0, "a").seen(1, "b").seen(2, "-")
        self.assertEqual(pairs(record), ((3, 1),))
        self.assertEqual(settling(record, (0, 1), GREATEST), ((),))

    def test_records_that_no_sign_fits(self):
        for record in NO_FIT:
            self.assertIs(settles(record, (), 0), True)
            self.assertIs(settles(record, (0, GREATEST), 5), True)
            self.assertEqual(settling(record, (), 0), ((),))
            self.assertEqual(settling(record, (0, 1, 2, 3, 4, GREATEST), 0), ((),))

    def test_a_time_settles_itself_just_if_no_place_is_dead(self):
        for width in range(1, 9):
            record = Record(width, most=15, paces=(-7, 3))
            for time in (0, 5, GREATEST):
                self.assertIs(settles(record, (time,), time), True)
                dead = Record(width, dead=(width - 1,), least=8, most=15, paces=(-7, 3))
                self.assertIs(settles(dead, (time,), time), False)


class ListingTest(PromiseTest):
    def check(self, choice, listing, record):
        signs = listing.fitting(record)
        times = tuple(sorted({some_time(choice) for number in range(choice.randint(0, 4))}))
        for time in (some_time(choice), choice.randint(0, 4)):
            told = (record.told, times, time)
            wanted = least_sets(
                len(times), lambda row: settles_by_listing(signs, record, [times[at] for at in row], time)
            )
            found = settling(record, times, time)
            self.assertEqual(found, wanted, told)
            self.assertIs(type(found), tuple)
            self.assertEqual({type(row) for row in found} - {tuple}, set())
            self.assertIs(settles(record, times, time), wanted != (), told)
            self.assertIs(settles(record, (), time), wanted == ((),), told)
            self.found.append(wanted)

    def check_kinds(self, least):
        kinds = [(), ((),)]
        self.assertGreater(min(self.found.count(kind) for kind in kinds), least)
        others = [row for row in self.found if row not in kinds]
        self.assertGreater(len(others), least)
        self.assertGreater(len([row for row in others if len(row) > 1 or len(row[0]) > 1]), least // 3)

    def test_beside_all_signs_of_few_letters(self):
        self.found = []
        choice = some("moments of few")
        for number in range(220):
            self.check(choice, FEW, some_record(choice, longest=choice.choice((3, 3, 4)), most=3))
        self.check_kinds(30)

    def test_beside_all_signs_of_all_letters(self):
        self.found = []
        choice = some("moments of all")
        for number in range(50):
            self.check(choice, ALL, some_record(choice, longest=2, most=3))
        self.check_kinds(6)


class LongTest(PromiseTest):
    def test_one_pair_alone(self):
        choice = some("one pair")
        kinds = {True: 0, False: 0}
        for number in range(300):
            width, length, pace = choice.randint(3, 8), choice.randint(1, 40), choice.randint(-9, 9)
            dead = tuple(place for place in range(width) if choice.random() < 0.2)
            record = Record(width, dead=dead, least=length, most=length, paces=(pace,))
            times = tuple(sorted(choice.sample(range(60), 5)) + [GREATEST - choice.randint(0, 60)])
            time = choice.choice((choice.randint(0, 60), GREATEST - choice.randint(0, 60)))
            asked = {(place + pace * time) % length for place in range(width)}
            seen = [{(place + pace * moment) % length for place in living_places(record)} for moment in times]
            wanted = least_sets(6, lambda row: asked <= set().union(*[seen[at] for at in row]))
            self.assertEqual(settling(record, times, time), wanted, (record.told, times, time))
            self.assertIs(settles(record, times, time), wanted != ())
            kinds[wanted != ()] += 1
        self.assertGreater(min(kinds.values()), 50)

    def test_several_pairs(self):
        choice = some("several pairs")
        kinds = {True: 0, False: 0}
        for number in range(120):
            record = some_long_record(choice, glances=8)
            possible = possible_by_hand(record)
            if not 1 < len(possible) <= 12:
                continue
            times = tuple(sorted(choice.sample(range(0, 80, 2), 5)) + [GREATEST - choice.randint(0, 60)])
            for time in (choice.randint(0, 50), times[2] + 1, GREATEST):
                wanted = settles_by_hand(record, possible, times, time)
                self.assertIs(settles(record, times, time), wanted, (record.told, times, time))
                for row in settling(record, times, time):
                    self.assertTrue(settles_by_hand(record, possible, [times[at] for at in row], time))
                    for at in row:
                        part = [times[other] for other in row if other != at]
                        self.assertFalse(settles_by_hand(record, possible, part, time))
                kinds[wanted] += 1
        self.assertGreater(min(kinds.values()), 20)


class ArgumentsTest(PromiseTest):
    def setUp(self):
        self.record = Record(2, most=3).seen(0, "ab")
        # 31 pairs can be.
        self.crowd = Record(2, most=31)

    def check_both(self, kind, attribute, value, record, times, time):
        for call in (settles, settling):
            self.check_raises(kind, attribute, value, call, record, times, time)
            self.check_raises(kind, attribute, value, call, time=time, times=times, record=record)

    def test_not_a_record(self):
        for wrong in NO_RECORDS:
            self.check_both(NotARecord, "given", wrong, wrong, (0,), 0)

    def test_no_tuple_of_times(self):
        for record in (self.record, self.crowd, NO_FIT[0]):
            for wrong in NO_TUPLES:
                self.check_both(InvalidTimes, "index", None, record, wrong, 0)

    def test_wrong_times(self):
        for wrong in NO_TIMES:
            for times, index in (
                ((wrong,), 0), ((wrong, 1), 0), ((0, wrong), 1), ((0, 1, wrong, 2), 2), ((0, 1, 2, 3, 4, wrong), 5),
                ((wrong, wrong), 0), ((0, 1, 2, 3, 4, 5, wrong), 6),
            ):
                self.check_both(InvalidTimes, "index", index, self.record, times, 0)

    def test_times_that_do_not_rise(self):
        for times, index in (
            ((0, 0), 1), ((1, 0), 1), ((0, 2, 1), 2), ((0, 2, 2), 2), ((GREATEST, GREATEST), 1), ((GREATEST, 0), 1),
            ((0, 1, 2, 3, 4, 4), 5), ((5, 4, 3), 1), ((3, 3, -1), 1), ((0, 1, 0, 1), 2),
        ):
            self.check_both(InvalidTimes, "index", index, self.record, times, 0)

    def test_a_seventh_time(self):
        self.assertIs(settles(self.record, (0, 1, 2, 3, 4, GREATEST), 0), True)
        for times, index in (
            (tuple(range(7)), 6), (tuple(range(20)), 6), ((0, 1, 2, 3, 4, 5, 5), 6), ((0, 1, 2, 3, 4, 5, 6, 0), 6),
            ((0, 1, 2, 3, 4, 5, "x"), 6), ((0, 1, 2, 3, 4, 4, 6), 5), ((0, True, 2, 3, 4, 5, 6), 1),
            ((0, 1, 2, 3, 4, GREATEST, GREATEST + 1), 6),
        ):
            self.check_both(InvalidTimes, "index", index, self.record, times, 0)

    def test_wrong_time(self):
        for record in (self.record, self.crowd, NO_FIT[0]):
            for wrong in NO_TIMES:
                self.check_both(InvalidTime, "given", wrong, record, (0, 1), wrong)

    def test_the_order_of_the_checks(self):
        for record in (self.record, self.crowd):
            rows = [
                ("record", record, record.told, NotARecord, "given", record.told),
                ("times", (0, GREATEST), (0, 0), InvalidTimes, "index", 1),
                ("time", 0, -1, InvalidTime, "given", -1),
            ]
            self.check_order(settles, rows)
            self.check_order(settling, rows)

    def test_too_many_pairs(self):
        for record, many in (
            (self.crowd, 31), (Record(1, least=10, most=40), 31), (Record(8, dead=(0,), most=40), 40),
            (Record(1, most=2, paces=tuple(range(-8, 8))), 32), (Record(8, most=38).seen(0, "abcdefgh"), 31),
            (crowded(12, Record(2, most=40, paces=ALL_PACES)), 760),
        ):
            self.assertEqual(len(pairs(record)), many)
            for times in ((), (0,), (0, 1, 2, 3, 4, GREATEST)):
                self.check_both(TooMany, "most", 30, record, times, 0)

    def test_just_thirty_pairs(self):
        for record in (
            Record(2, most=30), Record(2, least=11, most=40), Record(2, most=2, paces=tuple(range(-7, 8))),
            Record(8, most=37).seen(0, "abcdefgh"),
        ):
            self.assertEqual(len(pairs(record)), 30)
            self.assertIs(settles(record, (3,), 3), True)
            self.assertEqual(settling(record, (3,), 3), ((0,),))
            self.assertIs(settles(record, (), 3), False)

    def test_only_pairs_that_can_be_count(self):
        record = Record(8, most=8, paces=ALL_PACES).seen(0, "abcdefgh").seen(1, "bcdefgha")
        self.assertEqual(pairs(record), ((8, -7), (8, 1), (8, 9)))
        self.assertIs(settles(record, (), 0), True)
        self.assertEqual(settling(NO_FIT[1], (4,), 0), ((),))

    def test_by_name(self):
        record = Record(2, least=4, most=4)
        self.assertIs(settles(time=0, times=(4,), record=record), True)
        self.assertEqual(settling(time=0, times=(1, 3), record=record), ((0, 1),))

    def test_nothing_is_changed(self):
        record = Record(3, dead=(1,), most=4, groups=("ab",)).seen(0, "A??").seen(2, "a?-")
        told = record.told
        times = (0, 3, GREATEST)
        for call in (settles, settling):
            self.assertEqual(call(record, times, 9), call(record, times, 9))
            self.assertEqual(record.told, told)
            self.assertEqual(times, (0, 3, GREATEST))
            self.assertEqual(record, Record(3, dead=(1,), most=4, groups=("ab",)).seen(0, "A??").seen(2, "a?-"))


if __name__ == "__main__":
    unittest.main()

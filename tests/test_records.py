import unittest

from glimpserounds.errors import InvalidDead, InvalidGroups, InvalidLength, InvalidPaces, InvalidWidth
from glimpserounds.errors import InvalidTime, InvalidWindow, NotARecord, TooMany
from glimpserounds.records import Record
from glimpserounds.signs import Sign
from tests.support import GREATEST, LETTERS, NO_INTEGERS, NO_STRINGS, NO_TIMES, NO_TUPLES, NO_WIDTHS, NO_WINDOWS
from tests.support import PromiseTest, crowded, same

SMALL = LETTERS[1:]
ALL_PACES = tuple(range(-9, 10))
# What stands behind the width, with each argument at both of its ends.
NAMED = [
    {},
    {"dead": ()},
    {"dead": (0,)},
    {"dead": (2,)},
    {"dead": (0, 1, 2)},
    {"dead": (0, 2), "most": 40},
    {"least": 1, "most": 1},
    {"least": 20},
    {"least": 40, "most": 40},
    {"least": 2, "most": 4},
    {"paces": (0,)},
    {"paces": (-9,)},
    {"paces": (9,)},
    {"paces": (-9, 9)},
    {"paces": (-1, 0, 1)},
    {"paces": ALL_PACES},
    {"groups": ("ab",)},
    {"groups": ("oc", "il")},
    {"groups": (SMALL,)},
    {"groups": (SMALL[::-1],)},
    {"groups": ("az", "by", "cx")},
    {"groups": tuple(SMALL[start:start + 2] for start in range(0, 26, 2))},
    {"dead": (1,), "least": 3, "most": 7, "paces": (-2, 5), "groups": ("nmh", "uv")},
]
DEFAULTS = {"dead": (), "least": 1, "most": 20, "paces": (1,), "groups": ()}
NAMES = ("width", "dead", "least", "most", "paces", "groups", "glances")


def parts(record):
    return tuple(getattr(record, name) for name in NAMES)


class PropertiesTest(PromiseTest):
    def test_each_property_is_as_it_was_passed_or_its_default(self):
        for named in NAMED:
            with self.subTest(named):
                record = Record(3, **named)
                wanted = {**DEFAULTS, **named}
                self.assertEqual(record.width, 3)
                for name, value in wanted.items():
                    self.assertTrue(same(getattr(record, name), value), name)
                self.assertEqual(record.glances, ())
                self.assertEqual(parts(Record(width=3, **named)), parts(record))

    def test_every_width_with_its_places(self):
        for width in range(1, 9):
            self.assertEqual(Record(width).width, width)
            self.assertEqual(Record(width, dead=(width - 1,)).dead, (width - 1,))
            self.assertEqual(Record(width, dead=tuple(range(width))).dead, tuple(range(width)))

    def test_every_least_and_most(self):
        for least in range(1, 41):
            for most in range(least, 41):
                record = Record(1, least=least, most=most)
                self.assertEqual((record.least, record.most), (least, most))

    def test_all_but_the_width_is_passed_by_name_alone(self):
        for rest in (((),), ((), 1), ((), 1, 20, (1,), ())):
            with self.assertRaises(TypeError):
                Record(3, *rest)

    def test_told_is_the_row_of_all_properties(self):
        for named in NAMED:
            record = Record(3, **named)
            wanted = {**DEFAULTS, **named}
            told = (3, *[wanted[name] for name in NAMES[1:-1]], ())
            self.assertEqual(record.told, told)
            self.assertIs(type(record.told), tuple)
            seen = record.seen(7, "???").seen(5, "???")
            self.assertEqual(seen.told, (*told[:-1], ((7, "???"), (5, "???"))))
            self.assertEqual(seen.told, parts(seen))

    def test_no_property_can_be_assigned(self):
        for record in (Record(3), Record(3, dead=(1,), least=2, most=9, paces=(0, 1), groups=("ab",)).seen(4, "A??")):
            told = record.told
            for name in (*NAMES, "told"):
                for value in (getattr(record, name), 4, 40, (), None):
                    with self.assertRaises(AttributeError):
                        setattr(record, name, value)
            self.assertEqual(parts(record), told)
            self.assertIs(record.told, told)

    def test_repr_for_all_numbers(self):
        self.assertEqual(repr(Record(3).seen(0, "aba").seen(1, "ba?")), "Record of 3 places, 2 glances")
        for width in range(1, 9):
            for number in range(13):
                record = crowded(number, Record(width))
                self.assertEqual(repr(record), "Record of " + str(width) + " places, " + str(number) + " glances")

    def test_len_and_truth(self):
        for number in range(13):
            record = crowded(number, Record(2))
            self.assertEqual(len(record), number)
            self.assertIs(bool(record), True)


class EqualityTest(PromiseTest):
    def test_equal_are_those_that_tell_the_same(self):
        rows = [Record(3, **named) for named in NAMED] + [Record(4), Record(8), Record(1)]
        rows += [record.seen(0, "?" * record.width) for record in rows]
        rows += [Record(3).seen(1, "???"), Record(3).seen(0, "a??"), Record(3).seen(0, "???").seen(0, "???")]
        for one in rows:
            for other in rows:
                self.assertIs(one == other, one.told == other.told)
                self.assertIs(one != other, one.told != other.told)
        for named in NAMED:
            one, other = Record(3, **named), Record(3, **named)
            self.assertIs(one == other, True)
            self.assertIs(one != other, False)
            self.assertIs(one.seen(2, "???") == other.seen(2, "???"), True)
            self.assertIs(one.seen(2, "???") == other, False)

    def test_each_part_counts(self):
        one = Record(3, dead=(0,), least=2, most=5, paces=(1, 2), groups=("ab",)).seen(0, "?a?")
        same_but_for_one = [
            Record(4, dead=(0,), least=2, most=5, paces=(1, 2), groups=("ab",)).seen(0, "?a??"),
            Record(3, dead=(2,), least=2, most=5, paces=(1, 2), groups=("ab",)).seen(0, "?a?"),
            Record(3, dead=(), least=2, most=5, paces=(1, 2), groups=("ab",)).seen(0, "?a?"),
            Record(3, dead=(0,), least=3, most=5, paces=(1, 2), groups=("ab",)).seen(0, "?a?"),
            Record(3, dead=(0,), least=2, most=6, paces=(1, 2), groups=("ab",)).seen(0, "?a?"),
            Record(3, dead=(0,), least=2, most=5, paces=(1,), groups=("ab",)).seen(0, "?a?"),
            Record(3, dead=(0,), least=2, most=5, paces=(1, 2), groups=("ba",)).seen(0, "?a?"),
            Record(3, dead=(0,), least=2, most=5, paces=(1, 2), groups=("ab", "cd")).seen(0, "?a?"),
            Record(3, dead=(0,), least=2, most=5, paces=(1, 2), groups=("ab",)).seen(0, "?A?"),
            Record(3, dead=(0,), least=2, most=5, paces=(1, 2), groups=("ab",)).seen(1, "?a?"),
            Record(3, dead=(0,), least=2, most=5, paces=(1, 2), groups=("ab",)),
        ]
        self.check_unequal_to_others(one, same_but_for_one)

    def test_the_order_of_the_glances_counts(self):
        one = Record(2).seen(0, "a?").seen(1, "?b")
        other = Record(2).seen(1, "?b").seen(0, "a?")
        self.check_unequal_to_others(one, [other])

    def test_unequal_to_values_of_other_classes(self):
        record = Record(2).seen(0, "ab")
        others = [*NO_INTEGERS, *NO_STRINGS, record.told, repr(record), Sign("ab"), Record, ((0, "ab"),)]
        self.check_unequal_to_others(record, others)


class ArgumentsTest(PromiseTest):
    def check_wrong(self, kind, attribute, value, width=3, **named):
        self.check_raises(kind, attribute, value, Record, width, **named)
        self.check_raises(kind, attribute, value, Record, **named, width=width)

    def test_width(self):
        for width in NO_WIDTHS:
            self.check_wrong(InvalidWidth, "given", width, width)

    def test_dead(self):
        for dead in NO_TUPLES:
            self.check_wrong(InvalidDead, "index", None, dead=dead)
        for wrong in [*NO_INTEGERS, -1, 3, 4, 8, GREATEST]:
            self.check_wrong(InvalidDead, "index", 0, dead=(wrong,))
            self.check_wrong(InvalidDead, "index", 1, dead=(0, wrong))
            self.check_wrong(InvalidDead, "index", 1, dead=(1, wrong, 2))
            self.check_wrong(InvalidDead, "index", 0, dead=(wrong, wrong))
            self.check_wrong(InvalidDead, "index", 3, dead=(0, 1, 2, wrong))
        for dead, index in [((0, 0), 1), ((1, 0), 1), ((0, 2, 1), 2), ((0, 2, 2), 2), ((2, 1, "x"), 1), ((5, 1, 0), 0)]:
            self.check_wrong(InvalidDead, "index", index, dead=dead)
        for width in range(1, 9):
            self.check_wrong(InvalidDead, "index", 0, width, dead=(width,))
            self.check_wrong(InvalidDead, "index", width, width, dead=tuple(range(width + 1)))

    def test_least(self):
        for least in [*NO_INTEGERS, 0, -1, 41, GREATEST]:
            self.check_wrong(InvalidLength, "given", least, least=least)
            self.check_wrong(InvalidLength, "given", least, least=least, most=40)

    def test_most(self):
        for most in [*NO_INTEGERS, 0, -1, 41, GREATEST]:
            self.check_wrong(InvalidLength, "given", most, most=most)
            self.check_wrong(InvalidLength, "given", most, least=40, most=most)
        for least in range(2, 41):
            self.check_wrong(InvalidLength, "given", least - 1, least=least, most=least - 1)
            self.check_wrong(InvalidLength, "given", 1, least=least, most=1)

    def test_the_default_most_is_too_small_for_a_greater_least(self):
        self.assertEqual(Record(3, least=20).least, 20)
        for least in range(21, 41):
            self.check_wrong(InvalidLength, "given", 20, least=least)

    def test_paces(self):
        for paces in [*NO_TUPLES, ()]:
            self.check_wrong(InvalidPaces, "index", None, paces=paces)
        for wrong in [*NO_INTEGERS, -10, 10, GREATEST, -GREATEST]:
            self.check_wrong(InvalidPaces, "index", 0, paces=(wrong,))
            self.check_wrong(InvalidPaces, "index", 1, paces=(-9, wrong))
            self.check_wrong(InvalidPaces, "index", 2, paces=(-9, 0, wrong, 9))
            self.check_wrong(InvalidPaces, "index", 19, paces=(*ALL_PACES, wrong))
        for paces, index in [((1, 1), 1), ((1, 0), 1), ((-1, 1, 0), 2), ((-9, -9), 1), ((9, 9), 1), ((0, -1, "x"), 1)]:
            self.check_wrong(InvalidPaces, "index", index, paces=paces)

    def test_groups(self):
        for groups in NO_TUPLES:
            self.check_wrong(InvalidGroups, "index", None, groups=groups)
        wrong_groups = [
            *NO_STRINGS, "", "a", "aa", "aba", "aB", "Ab", "AB", "a-", "-a", "--", "a?", "a1", "a b", "ab ", "a\n",
            "a\u00e9", "\u00aab", "\uff41b", "a\udc80",
        ]
        for wrong in wrong_groups:
            self.check_wrong(InvalidGroups, "index", 0, groups=(wrong,))
            self.check_wrong(InvalidGroups, "index", 1, groups=("xy", wrong))
            self.check_wrong(InvalidGroups, "index", 2, groups=("xy", "zw", wrong, wrong))
        cases = [
            (("ab", "ab"), 1), (("ab", "ba"), 1), (("ab", "bc"), 1), (("ab", "cb"), 1), (("ab", "cd", "ea"), 2),
            (("ab", "cd", "edf"), 2), ((SMALL, "ab"), 1), (("ab", "ca", "x"), 1), (("ab", "cd", "cd", "ab"), 2),
            ((SMALL + "a",), 0),
        ]
        for groups, index in cases:
            self.check_wrong(InvalidGroups, "index", index, groups=groups)

    def test_the_order_of_the_checks(self):
        rows = [
            ("width", 3, 9, InvalidWidth, "given", 9),
            ("dead", (0, 2), (2, 0), InvalidDead, "index", 1),
            ("least", 3, 0, InvalidLength, "given", 0),
            ("most", 9, 41, InvalidLength, "given", 41),
            ("paces", (1, 2), (), InvalidPaces, "index", None),
            ("groups", ("ab",), ("ab", "a"), InvalidGroups, "index", 1),
        ]
        self.check_order(Record, rows, positional=False)


class SeenTest(PromiseTest):
    def test_the_glances_stand_in_the_order_in_which_they_were_added(self):
        glances = ((5, "ab?"), (0, "???"), (GREATEST, "--z"), (5, "ab?"), (5, "cd?"))
        record = Record(3)
        for number, (time, window) in enumerate(glances):
            before = record
            record = before.seen(time, window)
            self.assertEqual(before.glances, glances[:number])
            self.assertEqual(len(before), number)
            self.assertEqual(record.glances, glances[:number + 1])
            self.assertEqual(record.told[:-1], before.told[:-1])
            self.assertIs(type(record), Record)
            self.assertIs(type(record.glances), tuple)
            self.assertIs(type(record.glances[-1]), tuple)

    def test_a_further_glance_leaves_the_record_as_it_was(self):
        for named in NAMED:
            one, untouched = Record(3, **named), Record(3, **named)
            first, second = one.seen(0, "???"), one.seen(1, "???")
            self.assertEqual(one, untouched)
            self.assertEqual(one.told, untouched.told)
            self.assertEqual([first.glances, second.glances], [((0, "???"),), ((1, "???"),)])
            self.assertEqual(first.told[:-1], one.told[:-1])

    def test_by_name(self):
        self.assertEqual(Record(2).seen(window="a?", time=3), Record(2).seen(3, "a?"))
        self.assertEqual(Record(2).seen(3, window="a?").glances, ((3, "a?"),))

    def test_every_letter_and_the_capitals_of_the_groups(self):
        record = Record(1, groups=("oc", "ilj"))
        for mark in LETTERS + "?OCILJ":
            self.assertEqual(record.seen(0, mark).glances, ((0, mark),))
        for mark in SMALL.upper():
            if mark not in "OCILJ":
                self.check_raises(InvalidWindow, "given", mark, record.seen, 0, mark)
            self.check_raises(InvalidWindow, "given", mark, Record(1).seen, 0, mark)
            self.assertEqual(Record(1, groups=(SMALL,)).seen(0, mark).glances, ((0, mark),))

    def test_times(self):
        for time in (0, 1, 12, 40, 41, GREATEST - 1, GREATEST):
            self.assertEqual(Record(2).seen(time, "ab").glances, ((time, "ab"),))
        for time in NO_TIMES:
            self.check_raises(InvalidTime, "given", time, Record(2).seen, time, "ab")
            self.check_raises(InvalidTime, "given", time, Record(2).seen, window="ab", time=time)

    def test_what_is_no_reading(self):
        record = Record(3, groups=("ab",))
        for window in NO_WINDOWS:
            self.check_raises(InvalidWindow, "given", window, record.seen, 0, window)
            self.check_raises(InvalidWindow, "given", window, record.seen, window=window, time=0)
        # The small letter of this character is k.
        self.check_raises(InvalidWindow, "given", "\u212a", Record(1, groups=("kl",)).seen, 0, "\u212a")

    def test_every_width_is_asked_for(self):
        for width in range(1, 9):
            for length in range(10):
                if length == width:
                    self.assertEqual(len(Record(width).seen(0, "a" * length)), 1)
                else:
                    self.check_raises(InvalidWindow, "given", "a" * length, Record(width).seen, 0, "a" * length)

    def test_only_a_question_mark_stands_at_a_dead_place(self):
        record = Record(3, dead=(0, 2), groups=("ab",))
        for mark in LETTERS + "?AB":
            self.assertEqual(record.seen(0, "?" + mark + "?").glances, ((0, "?" + mark + "?"),))
        for mark in LETTERS + "AB":
            for window in (mark + "??", "??" + mark, mark + "?" + mark, mark + "a?", "?a" + mark):
                self.check_raises(InvalidWindow, "given", window, record.seen, 0, window)
        self.assertEqual(Record(2, dead=(0, 1)).seen(0, "??").glances, ((0, "??"),))
        self.check_raises(InvalidWindow, "given", "?-", Record(2, dead=(0, 1)).seen, 0, "?-")

    def test_the_thirteenth_glance(self):
        record = crowded(12, Record(2))
        self.assertEqual(len(record), 12)
        self.check_raises(TooMany, "most", 12, record.seen, 12, "ab")
        self.check_raises(TooMany, "most", 12, record.seen, 0, "??")
        self.check_raises(TooMany, "most", 12, record.seen, window="??", time=0)
        self.assertEqual(record, crowded(12, Record(2)))

    def test_the_order_of_the_checks(self):
        rows = [
            ("time", 0, True, InvalidTime, "given", True),
            ("window", "a?", "a", InvalidWindow, "given", "a"),
        ]
        self.check_order(Record(2).seen, rows)
        self.check_order(crowded(12, Record(2)).seen, rows)
        dead = Record(2, dead=(1,))
        self.check_raises(InvalidTime, "given", -1, dead.seen, -1, "ab")
        self.check_raises(InvalidWindow, "given", "ab", crowded(12, dead).seen, 0, "ab")


class OfTest(PromiseTest):
    def test_the_record_that_tells_this(self):
        for named in NAMED:
            record = Record(3, **named)
            for number in range(13):
                again = Record.of(record.told)
                self.assertIs(type(again), Record)
                self.assertEqual(again, record)
                self.assertEqual(again.told, record.told)
                self.assertEqual(parts(again), parts(record))
                self.assertEqual(Record.of(told=record.told), record)
                if number < 12:
                    record = record.seen(number * 7, "???")

    def test_written_out(self):
        told = (3, (1,), 2, 40, (-9, 9), ("ab", "cd"), ((GREATEST, "A?-"), (0, "??C"), (0, "???")))
        record = Record(3, dead=(1,), least=2, most=40, paces=(-9, 9), groups=("ab", "cd"))
        record = record.seen(GREATEST, "A?-").seen(0, "??C").seen(0, "???")
        self.assertEqual(Record.of(told), record)
        self.assertEqual(Record.of(told).told, told)
        self.assertEqual(Record.of(told).seen(1, "b?b"), record.seen(1, "b?b"))

    def test_it_can_be_called_off_a_record(self):
        record = Record(2).seen(0, "ab")
        self.assertEqual(Record(5).of(record.told), record)

    def check_no_told(self, told):
        self.check_raises(NotARecord, "given", told, Record.of, told)
        self.check_raises(NotARecord, "given", told, Record.of, told=told)

    def test_what_is_no_row_of_seven(self):
        told = Record(2).seen(0, "ab").told
        for wrong in [*NO_TUPLES, *NO_STRINGS, (), told[:-1], told[1:], (*told, ()), list(told), Record(2), Record]:
            self.check_no_told(wrong)
        self.check_no_told((told,))
        self.check_no_told("abcdefg")
        self.check_no_told((None,) * 7)
        self.check_no_told(tuple(reversed(told)))

    def check_wrong_part(self, at, values):
        told = Record(3, dead=(1,), least=2, most=9, paces=(1, 2), groups=("ab",)).seen(0, "a?B").told
        for value in values:
            self.check_no_told((*told[:at], value, *told[at + 1:]))

    def test_each_part_wrong_by_itself(self):
        self.check_wrong_part(0, [*NO_WIDTHS, 2, 4])
        self.check_wrong_part(1, [*NO_TUPLES, (3,), (1, 1), (1, 0), (True,), ("1",), ([],), (0, 1), (2,)])
        self.check_wrong_part(2, [*NO_INTEGERS, 0, 10, 41, -1])
        self.check_wrong_part(3, [*NO_INTEGERS, 0, 1, 41, GREATEST])
        self.check_wrong_part(4, [*NO_TUPLES, (), (1, 1), (2, 1), (10,), (-10,), (True,), ("1",)])
        self.check_wrong_part(5, [*NO_TUPLES, (), ("a",), ("ab", "bc"), ("cd",), ("a-",), (["a", "b"],), (7,)])
        self.check_wrong_part(6, NO_TUPLES)

    def test_wrong_glances(self):
        for time in NO_TIMES:
            self.check_wrong_part(6, [((time, "a?B"),), ((0, "a?B"), (time, "a?B"))])
        for window in [*NO_STRINGS, "", "a?", "a?b?", "a?C", "ab?", "?-?", "?B?", "a?.", "a?\n"]:
            self.check_wrong_part(6, [((0, window),), ((0, "a?B"), (0, window))])
        glance = (0, "a?B")
        self.check_wrong_part(6, [
            [glance], ([0, "a?B"],), (0, "a?B"), glance, ((0,),), ((),), ((0, "a?B", 0),), (glance, [0, "a?B"]),
            (glance, None), (None,), ("0a",), ("a?B",), (7,), ({0: "a?B"},), ({0: 0, "a?B": 0},), (Record(3),),
        ])
        self.check_wrong_part(6, [(glance,) * 13, (glance,) * 14])

    def test_twelve_glances_can_be_told(self):
        told = (3, (), 1, 20, (1,), (), ((0, "abc"),) * 12)
        self.assertEqual(Record.of(told).told, told)


if __name__ == "__main__":
    unittest.main()

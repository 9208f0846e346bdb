import itertools
import unittest

from glimpserounds.certificates import certify_apart, certify_barred, certify_can, certify_implies, certify_must
from glimpserounds.checker import accepts
from glimpserounds.records import Record
from glimpserounds.signs import Sign
from tests.listing import FEW, some_record, some_time, some_window
from tests.proofs import Hostile, accepts_by_hand, one_changed, spots_by_hand, with_each_in_turn
from tests.support import GREATEST, NO_INTEGERS, NO_STRINGS, NO_TUPLES, PromiseTest, some

ONE = Record(3, least=2, most=4).seen(0, "aba").seen(1, "ba?")
TWO = ONE.seen(2, "ab?")
GROUPED = Record(2, least=2, most=3, paces=(-1, 1), groups=("abc", "de")).seen(0, "Ad").seen(1, "DC").seen(4, "a?")
WIDER = Record(2, least=2, most=3, paces=(-1, 1), groups=("abcz", "ed")).seen(0, "ZE").seen(4, "Z?")
OTHERS = Record(2, least=1, most=3, paces=(-1, 0, 1), groups=("bc",)).seen(4, "B?")
LONGER = Record(1, most=40, paces=(-1, 0, 1), groups=("abcd",)).seen(0, "D")
DEAD = Record(3, dead=(1,), least=2, most=3, paces=(0, 2)).seen(GREATEST, "a?c").seen(1, "??c")
ANYTHING = [*NO_INTEGERS, *NO_STRINGS, *NO_TUPLES, ONE, Sign("ab"), Record, Hostile(), Hostile, GREATEST, -1, "barred"]
WRITTEN_OUT = [
    (("barred", TWO.told, 3, 1), ((0, 0), (2, 1))),
    (("barred", TWO.told, 3, 1), ((2, 1), (0, 0))),
    (("barred", TWO.told, 9, 1), ()),
    (("barred", TWO.told, 1, 1), ()),
    (("barred", TWO.told, 4, -9), ()),
    (("barred", GROUPED.told, 3, 1), ((0, 1), (2, 0))),
    (("can", ONE.told, 2, "ac?"), ("abac", 1)),
    (("can", ONE.told, 2, "ab?"), ("ab", 1)),
    (("can", DEAD.told, GREATEST, "abc"), ("abc", 0)),
    (("must", ONE.told, 0, "?b?"), (("told", (None, (0, 1), None)),) * 3),
    (("must", TWO.told, 0, "???"), (("told", (None, None, None)),) * 3),
    (("implies", TWO.told, ONE.told), (("told", ((0, 0), (0, 1), (0, 2), (1, 0), (1, 1))),) * 3),
    (("implies", TWO.told, Record(8, most=40).told), (("told", ()),) * 3),
    (("apart", TWO.told, ONE.seen(2, "ac?").told), (((0, 2, 1), (1, 2, 1)),) * 3),
    (("apart", TWO.told, Record(1, most=1).told), ()),
    (("apart", TWO.told, Record(1, paces=(0, 2, 3)).told), ()),
]


# Claims of all words with their certificates, as this package makes them.
PAPERS = [
    certify_barred(TWO, 3, 1), certify_barred(TWO, 5, 1), certify_barred(GROUPED, 3, 7),
    certify_can(ONE, 2, "ac?"), certify_can(GROUPED, GREATEST, "?D"), certify_can(DEAD, 0, "abc"),
    certify_must(TWO, GREATEST, "aba"), certify_must(ONE, 2, "a??"), certify_must(GROUPED, 0, "BD"),
    certify_implies(TWO, ONE), certify_implies(GROUPED, WIDER), certify_implies(GROUPED, LONGER),
    certify_apart(TWO, ONE.seen(2, "ac?")), certify_apart(GROUPED, OTHERS), certify_apart(OTHERS, GROUPED),
]


class WrittenOutTest(PromiseTest):
    def test_right_ones(self):
        for claim, certificate in WRITTEN_OUT:
            self.assertIs(accepts(claim, certificate), True, (claim, certificate))
            self.assertIs(accepts(certificate=certificate, claim=claim), True)

    def test_what_is_not_let_has_the_empty_certificate_alone(self):
        for length, pace in ((1, 1), (5, 1), (40, -9), (2, 0), (3, 9)):
            claim = ("barred", TWO.told, length, pace)
            self.assertIs(accepts(claim, ()), True)
            for spot, further in itertools.product(spots_by_hand(TWO.told), repeat=2):
                self.assertIs(accepts(claim, (spot, further)), False)
        for length in (2, 3, 4):
            self.assertIs(accepts(("barred", TWO.told, length, 1), ()), False)

    def test_bounds_of_lengths_paces_and_times(self):
        for length, wanted in ((0, False), (1, True), (40, True), (41, False), (-1, False)):
            self.assertIs(accepts(("barred", TWO.told, length, 2), ()), wanted)
        for pace, wanted in ((-10, False), (-9, True), (9, True), (10, False)):
            self.assertIs(accepts(("barred", TWO.told, 2, pace), ()), wanted)
        nothing = (("told", (None, None, None)),) * 3
        for time, wanted in ((-1, False), (0, True), (GREATEST, True), (GREATEST + 1, False)):
            self.assertIs(accepts(("must", TWO.told, time, "???"), nothing), wanted)
            self.assertIs(accepts(("can", TWO.told, time, "???"), ("ab", 1)), wanted)

    def test_a_spot_is_a_place_that_was_read(self):
        record = Record(2, least=1, most=1).seen(0, "a?").seen(0, "?b")
        claim = ("barred", record.told, 1, 1)
        rows = list(itertools.product(range(-3, 4), repeat=2))
        for spot, further in itertools.product(rows, repeat=2):
            self.assertIs(accepts(claim, (spot, further)), {spot, further} == {(0, 0), (1, 1)})

    def test_the_sign_of_a_certificate(self):
        claim = ("can", Record(1, most=40, paces=(-9, 0, 1, 9)).told, 0, "a")
        for text, pace, wanted in (
            ("a", 1, True), ("a" * 40, 9, True), ("a" + "-" * 39, -9, True), ("a" * 41, 1, False), ("", 1, False),
            ("b", 1, False), ("a", True, False), ("a", 2, False), ("a", 10, False), ("a", False, False), ("a", 0, True),
            ("A", 1, False), ("a?", 1, False), ("a ", 1, False), (b"a", 1, False), (("a",), 1, False), (1, "a", False),
            ("a\n", 1, False), (Sign("a"), 1, False), (None, 1, False), ("a", None, False), ("a", "1", False),
        ):
            self.assertIs(accepts(claim, (text, pace)), wanted, (text, pace))
        for wrong in (("a",), ("a", 1, 1), ["a", 1], (), "a1", "a", Sign("a"), {"a": 1}, ("a", 1, None), None):
            self.assertIs(accepts(claim, wrong), False)

    def test_words(self):
        for claim, certificate in PAPERS:
            for word in ("barred", "can", "must", "implies", "apart", "fits", "told", "", "Must", "must ", b"must", 0, None):
                if word != claim[0]:
                    self.assertIs(accepts((word, *claim[1:]), certificate), False)


class BarsTest(PromiseTest):
    def test_every_two_spots_of_short_records(self):
        """No two spots are taken for a length and a pace that can be, and some are for each that cannot."""
        choice = some("bars")
        barred = 0
        for number in range(80):
            record = some_record(choice, wrong=0.12, most=4)
            fitting = {(len(text), pace) for text, pace in FEW.fitting(record)}
            spots = spots_by_hand(record.told)
            for length in range(record.least, record.most + 1):
                for pace in record.paces:
                    claim = ("barred", record.told, length, pace)
                    taken = [pair for pair in itertools.product(spots, repeat=2) if accepts(claim, pair)]
                    self.assertIs(bool(taken), (length, pace) not in fitting, claim)
                    self.assertEqual({(last, first) for first, last in taken}, set(taken))
                    barred += bool(taken)
        self.assertGreater(barred, 50)


class ChangedTest(PromiseTest):
    def check_changed(self, claim, certificate):
        found = {True: 0, False: 0}
        for other in one_changed(certificate):
            wanted = accepts_by_hand(claim, other)
            self.assertIs(accepts(claim, other), wanted, (claim, other))
            found[wanted] += 1
        for other in one_changed(claim):
            wanted = accepts_by_hand(other, certificate)
            self.assertIs(accepts(other, certificate), wanted, (other, certificate))
            found[wanted] += 1
        return found

    def test_one_part_changed(self):
        words = {}
        for claim, certificate in [*PAPERS, *WRITTEN_OUT]:
            found = self.check_changed(claim, certificate)
            words[claim[0]] = (found[True] + words.get(claim[0], (0, 0))[0], found[False] + words.get(claim[0], (0, 0))[1])
        self.assertEqual(len(words), 5)
        self.assertGreater(min(taken for taken, refused in words.values()), 20)
        self.assertGreater(min(refused for taken, refused in words.values()), 500)

    def test_one_part_changed_of_what_records_by_chance_give(self):
        choice = some("changed")
        seen = {}
        while min([seen.get(word, 0) for word in ("barred", "can", "must", "implies", "apart")]) < 6:
            one = some_record(choice, longest=3, most=3)
            other = choice.choice((some_record(choice, longest=3, most=2), Record.of((*one.told[:6], one.glances[:-1]))))
            time = some_time(choice)
            window = some_window(choice, one, [])
            length, pace = choice.randint(one.least, one.most), choice.choice(one.paces)
            for paper in (
                certify_barred(one, length, pace), certify_can(one, time, window), certify_must(one, time, window),
                certify_implies(one, other), certify_apart(one, other),
            ):
                if paper is not None and seen.get(paper[0][0], 0) < 6:
                    seen[paper[0][0]] = seen.get(paper[0][0], 0) + 1
                    self.assertIs(accepts(*paper), True, paper)
                    self.assertIs(accepts_by_hand(*paper), True, paper)
                    self.check_changed(*paper)

    def test_lists_in_the_place_of_tuples(self):
        def listed(value):
            if isinstance(value, tuple):
                yield list(value)
                for at, item in enumerate(value):
                    for other in listed(item):
                        yield value[:at] + (other,) + value[at + 1:]

        for claim, certificate in PAPERS:
            for other in listed(certificate):
                self.assertIs(accepts(claim, other), False, other)
            for other in listed(claim):
                self.assertIs(accepts(other, certificate), False, other)

    def test_truths_in_the_place_of_integers(self):
        def truths(value):
            if isinstance(value, tuple):
                for at, item in enumerate(value):
                    for other in truths(item):
                        yield value[:at] + (other,) + value[at + 1:]
            elif value in (0, 1):
                yield bool(value)

        found = 0
        for claim, certificate in PAPERS:
            for other in truths(certificate):
                self.assertIs(accepts(claim, other), False, other)
                found += 1
            for other in truths(claim):
                self.assertIs(accepts(other, certificate), False, other)
        self.assertGreater(found, 50)

    def test_certificates_of_other_claims(self):
        for claim, certificate in PAPERS:
            for other, further in PAPERS:
                self.assertIs(accepts(claim, further), accepts_by_hand(claim, further), (claim, further))
                self.assertIs(accepts(claim, other), False)
                self.assertIs(accepts(certificate, claim), False)


class AnythingTest(PromiseTest):
    def test_things_of_any_kind_in_the_place_of_both(self):
        for first in ANYTHING:
            for last in ANYTHING:
                self.assertIs(accepts(first, last), False)
        for claim, certificate in PAPERS:
            for thing in ANYTHING:
                self.assertIs(accepts(thing, certificate), False)
                if certificate != ():
                    self.assertIs(accepts(claim, thing), False)

    def test_things_of_any_kind_in_the_place_of_each_part(self):
        hostile = Hostile()
        for claim, certificate in PAPERS:
            for thing in (hostile, object(), [], {}, set(), b"", Record, len, ONE, ((),), (hostile,), (hostile,) * 2):
                for other in with_each_in_turn(certificate, thing):
                    self.assertIs(accepts(claim, other), False)
                for other in with_each_in_turn(claim, thing):
                    self.assertIs(accepts(other, certificate), False)

    def test_deep_values(self):
        deep = "barred"
        for number in range(19):
            deep = (deep,)
            for claim, certificate in PAPERS:
                self.assertIs(accepts(deep, certificate), False)
                self.assertIs(accepts(claim, deep), False)
                self.assertIs(accepts((claim[0], deep, *claim[2:]), certificate), False)

    def test_a_record_is_not_what_is_told_of_it(self):
        self.assertIs(accepts(("barred", TWO, 3, 1), ((0, 0), (2, 1))), False)
        self.assertIs(accepts(("implies", TWO, TWO.told), (("told", ()),) * 3), False)
        self.assertIs(accepts(("apart", TWO.told, ONE), ()), False)

    def test_nothing_is_changed(self):
        spot = [0, 0]
        parts = [("told", [spot, None])]
        told = [list(TWO.told), {"a": [1]}]
        for claim in (("must", TWO.told, 0, "???"), ("must", told, 0, "???"), told, ("can", TWO.told, parts, told)):
            self.assertIs(accepts(claim, parts), False)
            self.assertIs(accepts(claim, tuple(parts)), False)
        self.assertEqual([spot, parts], [[0, 0], [("told", [[0, 0], None])]])
        self.assertEqual(told, [list(TWO.told), {"a": [1]}])


if __name__ == "__main__":
    unittest.main()

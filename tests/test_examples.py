"""The examples that the document and the README show."""

import doctest
import pathlib
import unittest

EXAMPLES = '''
>>> from glimpserounds.pairs import number_of, pairs, shortest
>>> from glimpserounds.records import Record
>>> one = Record(3, least=2, most=4).seen(0, "aba").seen(1, "ba?")
>>> two = one.seen(2, "ab?")
>>> [pairs(one), number_of(one), str(shortest(one)), pairs(two), number_of(two), shortest(two.seen(3, "c??")), len(two), repr(two)]
[((2, 1), (3, 1), (4, 1)), 29, 'ab at 1', ((2, 1), (4, 1)), 2, None, 3, 'Record of 3 places, 3 glances']

>>> from glimpserounds.letters import can, letters, must, sure
>>> [letters(one, 2, 0), letters(one, 2, 1), sure(one, 10 ** 30), sure(two, 10 ** 30), can(one, 2, "ac?"), can(one, 2, "b??"), must(one, 2, "a??"), must(two, 10 ** 30, "aba")]
['a', '-abcdefghijklmnopqrstuvwxyz', '??a', 'aba', True, False, True, True]
>>> badly = Record(2, least=1, most=2, groups=("oc", "il")).seen(0, "Ci")
>>> [letters(badly, 0, 0), pairs(badly), letters(badly.seen(1, "?o"), 2, 0), can(badly, 1, "LO")]
['co', ((2, 1),), 'o', True]

>>> from glimpserounds.beside import alike, apart, changes, implies, together
>>> [implies(two, one), implies(one, two), alike(one, one.seen(2, "a??")), apart(two, one.seen(2, "ac?"))]
[True, False, True, True]
>>> first, last = Record(2, least=2, most=3).seen(0, "ab"), Record(2, least=2, most=3).seen(0, "ba")
>>> [together(first, last), changes(Record(2, least=2, most=2).seen(2, "cd").seen(0, "ab").seen(1, "ba"))]
[((2, 1, 1), (3, 1, 1), (3, 1, 2)), (2,)]

>>> from glimpserounds.moments import settles, settling
>>> [settles(one, (), 5), settles(one, (2,), 5), settles(one, (0,), 5), settling(one, (0, 2, 3), 5), settling(two, (0, 9), 10 ** 30)]
[False, True, False, ((1,), (2,)), ((),)]
'''
README = pathlib.Path(__file__).parent.parent / "README.md"


class ExamplesTest(unittest.TestCase):
    def check(self, text, least):
        # The fences of the README would otherwise be taken for what is shown.
        rows = "\n".join("" if row.startswith("```") else row for row in text.split("\n"))
        example = doctest.DocTestParser().get_doctest(rows, {}, "examples", None, 0)
        self.assertGreaterEqual(len(example.examples), least)
        shown = []
        results = doctest.DocTestRunner().run(example, out=shown.append)
        self.assertEqual((results.attempted, results.failed), (len(example.examples), 0), "".join(shown))

    def test_the_document(self):
        self.check(EXAMPLES, 14)

    def test_the_readme(self):
        self.check(README.read_text(encoding="utf-8"), 10)


if __name__ == "__main__":
    unittest.main()

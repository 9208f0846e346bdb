"""The examples that the document and the README show."""

import doctest
import pathlib
import unittest

EXAMPLES = '''
>>> from glimpserounds.signs import Sign, first_unlike
>>> [Sign("ab-").window(10 ** 30, 4), Sign("ab-", -2).window(1, 4), first_unlike(Sign("ab"), Sign("abab"), 3), first_unlike(Sign("abc"), Sign("abd"), 2), str(Sign("a", 0))]
['b-ab', 'b-ab', None, 1, 'a at 0']

>>> from glimpserounds.pairs import number_of, pairs, shortest
>>> from glimpserounds.records import Record
>>> one = Record(3, least=2, most=4).seen(0, "aba").seen(1, "ba?")
>>> two = one.seen(2, "ab?")
>>> [pairs(one), number_of(one), str(shortest(one)), pairs(two), number_of(two), shortest(two.seen(3, "c??")), len(two), repr(two)]
[((2, 1), (3, 1), (4, 1)), 29, 'ab at 1', ((2, 1), (4, 1)), 2, None, 3, 'Record of 3 places, 3 glances']

>>> from glimpserounds.letters import can, letters, must, sure
>>> [letters(one, 2, 0), letters(one, 2, 1), sure(one, 10 ** 30), sure(two, 10 ** 30), can(one, 2, "ac?"), can(one, 2, "b??"), must(one, 2, "a??"), must(two, 10 ** 30, "aba")]
['a', '-abcdefghijklmnopqrstuvwxyz', '??a', 'aba', True, False, True, True]
>>> badly = Record(2, least=1, most=2, groups=("oc", "il")).seen(0, "Ci")
>>> [letters(badly, 0, 0), pairs(badly), letters(badly.seen(1, "?o"), 2, 0), can(badly, 1, "LO")]
['co', ((2, 1),), 'o', True]

>>> from glimpserounds.beside import alike, apart, changes, implies, together
>>> [implies(two, one), implies(one, two), alike(one, one.seen(2, "a??")), apart(two, one.seen(2, "ac?"))]
[True, False, True, True]
>>> first, last = Record(2, least=2, most=3).seen(0, "ab"), Record(2, least=2, most=3).seen(0, "ba")
>>> [together(first, last), changes(Record(2, least=2, most=2).seen(2, "cd").seen(0, "ab").seen(1, "ba"))]
[((2, 1, 1), (3, 1, 1), (3, 1, 2)), (2,)]

>>> from glimpserounds.moments import settles, settling
>>> [settles(one, (), 5), settles(one, (2,), 5), settles(one, (0,), 5), settling(one, (0, 2, 3), 5), settling(two, (0, 9), 10 ** 30)]
[False, True, False, ((1,), (2,)), ((),)]

>>> from glimpserounds.books import Book
>>> book = Book()
>>> done = book.do_all(("set", "a", Record(3, least=2, most=4)), ("see", "a", 0, "aba"), ("claim", ("can", "a", 1, "ba?")))
>>> [done, book.see("a", 1, "ba?"), book.changes, book.claims, book.tried(len), book.undo(), len(book["a"])]
[3, 3, 4, (('can', 'a', 1, 'ba?'),), 1, None, 1]
>>> raised(book.see, "a", 1, "c??")
'Broken(index=0)'

>>> from glimpserounds.certificates import certify_apart, certify_barred, certify_can, certify_implies, certify_must
>>> from glimpserounds.checker import accepts
>>> claim, paper = certify_barred(two, 3, 1)
>>> [claim[2:], accepts(claim, paper), accepts(claim, ((0, 0), (2, 1))), accepts(claim, ((0, 0), (2, 0))), certify_barred(two, 4, 1), certify_barred(two, 9, 1)[1]]
[(3, 1), True, True, False, None, ()]
>>> [certify_can(two, 1, "c??"), accepts(certify_can(one, 2, "ac?")[0], ("abac", 1)), certify_must(one, 10 ** 30, "a??"), len(certify_must(two, 10 ** 30, "aba")[1]), certify_implies(one, two), len(certify_implies(two, one)[1])]
[None, True, None, 3, None, 3]

>>> from glimpserounds.console import Console
>>> console = Console()
>>> [console.say("a = 3 2 4 1"), console.say("a sees 0 aba"), console.say("a sees 1 ba?"), console.say("a pairs"), console.say("a number"), console.say("a shortest"), console.say("a sure 3"), console.say("a can 2 ac?"), console.say("undo"), console.say("a sees 2 ab?")]
['Record of 3 places, 0 glances', '3', '3', '2 1, 3 1, 4 1', '29', 'ab at 1', '???', 'ok', 'ok', '2']
'''
README = pathlib.Path(__file__).parent.parent / "README.md"


def raised(call, *args):
    """The error that the call raises, as the document shows it."""
    try:
        call(*args)
    except Exception as error:
        told = ", ".join(f"{name}={value!r}" for name, value in vars(error).items())
        return f"{type(error).__name__}({told})"
    return None


class ExamplesTest(unittest.TestCase):
    def check(self, text, least):
        # The fences of the README would otherwise be taken for what is shown.
        rows = "\n".join("" if row.startswith("```") else row for row in text.split("\n"))
        example = doctest.DocTestParser().get_doctest(rows, {"raised": raised}, "examples", None, 0)
        self.assertGreaterEqual(len(example.examples), least)
        shown = []
        results = doctest.DocTestRunner().run(example, out=shown.append)
        self.assertEqual((results.attempted, results.failed), (len(example.examples), 0), "".join(shown))

    def test_the_document(self):
        self.check(EXAMPLES, 26)

    def test_the_readme(self):
        self.check(README.read_text(encoding="utf-8"), 20)


if __name__ == "__main__":
    unittest.main()

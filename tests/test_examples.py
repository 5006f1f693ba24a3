"""The examples of the document, as they stand, of what has been built.

>>> from partedvalues.patterns import Pattern
>>> from partedvalues.takes import looked, take
>>> part = ("row", [(("name", "a"), None), (("name", "b"), ("call", "f", [("read", "a")]))], "rest")
>>> soon, late = Pattern(part, "soon", "absent"), Pattern(part, "late", "absent")
>>> [take(soon, [1, 2, 3, 4], []), take(soon, [1], [7]), take(soon, [], []), take(soon, 5, []), looked(soon, [1], [7])]
[([], ('bound', [('a', 1), ('b', 2), ('rest', [3, 4])])), ([('f', [1])], ('bound', [('a', 1), ('b', 7), ('rest', [])])), ([], ('failed', ('value',), ('item', 0))), ([], ('failed', ('value',), 'kind')), [(('what', ('value',)), 'row'), (('has', ('value',), 0), True), (('has', ('value',), 1), False)]]
>>> again = Pattern(("record", [("x", ("name", "a"), ("read", "b")), ("y", ("name", "b"), None)], None), "soon", "nothing")
>>> [take(again, {"y": 3}, []), take(again.with_order("late"), {"y": 3}, []), take(again, {"x": None, "y": 3}, []), take(again, {"x": None}, []), again.names(), len(again)]
[([], ('failed', ('field', ('value',), 'x'), ('unbound', 'b'))), ([], ('bound', [('a', 3), ('b', 3)])), ([], ('failed', ('field', ('value',), 'x'), ('unbound', 'b'))), ([], ('failed', ('field', ('value',), 'x'), ('unbound', 'b'))), ['a', 'b'], 3]

The examples of the section on changes, as far as they take values apart:

>>> from partedvalues.patterns import Program
>>> program = Program([("cases", None, [("row", [(("name", "a"), None)], None), ("record", [("x", ("name", "a"), None)], None), ("name", "a"), ("any",)]), ("set", "b", ("read", "a"))], "soon", "absent")
>>> [take(program, [4, 5], []), take(program, {"y": 1}, [])]
[([], ('bound', [('a', 4), ('b', 4)])), ([], ('bound', [('a', {'y': 1}), ('b', {'y': 1})]))]
>>> strict = Program([("cases", None, [("row", [], None)]), ("take", "c", ("any",))], "soon", "absent")
>>> [take(strict, 5, []), take(strict, [], [])]
[([], ('failed', ('value',), 'cases')), ([], ('failed', ('step',), ('unbound', 'c')))]
"""

import doctest
import pathlib
import sys
import unittest

README = pathlib.Path(__file__).resolve().parent.parent / "README.md"


class ExamplesTest(unittest.TestCase):
    def test_examples(self):
        ended = doctest.testmod(sys.modules[__name__])
        self.assertEqual((ended.failed, ended.attempted), (0, 12))

    def test_examples_of_the_readme(self):
        ended = doctest.testfile(str(README), module_relative=False)
        self.assertEqual((ended.failed, ended.attempted), (0, 10))


if __name__ == "__main__":
    unittest.main()

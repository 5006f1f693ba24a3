"""The examples of the document, as they stand.

>>> from partedvalues.patterns import Pattern
>>> from partedvalues.takes import looked, take
>>> part = ("row", [(("name", "a"), None), (("name", "b"), ("call", "f", [("read", "a")]))], "rest")
>>> soon, late = Pattern(part, "soon", "absent"), Pattern(part, "late", "absent")
>>> [take(soon, [1, 2, 3, 4], []), take(soon, [1], [7]), take(soon, [], []), take(soon, 5, []), looked(soon, [1], [7])]
[([], ('bound', [('a', 1), ('b', 2), ('rest', [3, 4])])), ([('f', [1])], ('bound', [('a', 1), ('b', 7), ('rest', [])])), ([], ('failed', ('value',), ('item', 0))), ([], ('failed', ('value',), 'kind')), [(('what', ('value',)), 'row'), (('has', ('value',), 0), True), (('has', ('value',), 1), False)]]
>>> again = Pattern(("record", [("x", ("name", "a"), ("read", "b")), ("y", ("name", "b"), None)], None), "soon", "nothing")
>>> [take(again, {"y": 3}, []), take(again.with_order("late"), {"y": 3}, []), take(again, {"x": None, "y": 3}, []), take(again, {"x": None}, []), again.names(), len(again)]
[([], ('failed', ('field', ('value',), 'x'), ('unbound', 'b'))), ([], ('bound', [('a', 3), ('b', 3)])), ([], ('failed', ('field', ('value',), 'x'), ('unbound', 'b'))), ([], ('failed', ('field', ('value',), 'x'), ('unbound', 'b'))), ['a', 'b'], 3]

Trees:

>>> from partedvalues.patterns import Pattern
>>> from partedvalues.trees import ends, judge, tree, walk
>>> plain = Pattern(("row", [(("name", "a"), ("number", 4))], None), "soon", "absent")
>>> [tree(plain)[1], [way[0] for way in tree(plain)[2]], ends(tree(plain)), walk(tree(plain), [], []), judge(plain, tree(plain)), judge(plain, ("end", ([], ("bound", []))))]
[('what', ('value',)), ['integer', 'none', 'record', 'row'], 5, ([], ('bound', [('a', ('known', 4))])), True, False]

Comparisons:

>>> from partedvalues.compare import alike, idle, lacks_alike, may_change_places, orders_alike, unbound
>>> from partedvalues.patterns import Pattern
>>> two = Pattern(("record", [("x", ("name", "a"), ("call", "f", [])), ("y", ("name", "b"), ("call", "g", []))], None), "soon", "absent")
>>> [orders_alike(two), may_change_places(two, 0), lacks_alike(two), unbound(two), idle(two)]
[True, False, False, [], []]
>>> back = Pattern(("record", [("x", ("name", "a"), ("read", "b")), ("y", ("name", "b"), None)], None), "soon", "absent")
>>> [orders_alike(back), unbound(back), unbound(back.with_order("late")), alike(back, back.with_order("late")), may_change_places(back, 0)]
[False, ['b'], [], False, False]

Fewest looks:

>>> from partedvalues.fewest import depth, fewest, shallow
>>> from partedvalues.patterns import Pattern, Program
>>> from partedvalues.trees import judge, tree
>>> both = Pattern(("record", [("x", ("any",), ("number", 1)), ("y", ("name", "a"), ("number", 2))], None), "soon", "absent")
>>> [depth(tree(both)), fewest(both), depth(shallow(both)), judge(both, shallow(both)), fewest(Program([("set", "a", ("number", 1))], "soon", "absent"))]
[3, 2, 2, True, 0]
>>> rest = Pattern(("row", [(("any",), ("number", 0))], "r"), "soon", "absent")
>>> [depth(tree(rest)), fewest(rest)]
[2, 1]

Changes:

>>> from partedvalues.changes import fails, least_sets, left_over, may_exchange, may_swap, needless, surely_binds, untaken
>>> from partedvalues.patterns import Program
>>> from partedvalues.takes import take
>>> program = Program([("cases", None, [("row", [(("name", "a"), None)], None), ("record", [("x", ("name", "a"), None)], None), ("name", "a"), ("any",)]), ("set", "b", ("read", "a"))], "soon", "absent")
>>> [take(program, [4, 5], []), take(program, {"y": 1}, []), untaken(program), may_swap(program, 0, 0), may_swap(program, 0, 1), surely_binds(program), needless(program), left_over(program, 0)]
[([], ('bound', [('a', 4), ('b', 4)])), ([], ('bound', [('a', {'y': 1}), ('b', {'y': 1})])), [(0, 3)], True, False, True, [], None]
>>> twice = Program([("set", "a", ("number", 1)), ("set", "b", ("number", 2)), ("set", "a", ("number", 3))], "soon", "absent")
>>> [needless(twice), least_sets(twice), may_exchange(twice, 0), may_exchange(twice, 1), fails(twice)]
[[0], [[1, 2]], True, True, []]
>>> strict = Program([("cases", None, [("row", [], None)]), ("take", "c", ("any",))], "soon", "absent")
>>> [take(strict, 5, []), take(strict, [], []), fails(strict)]
[([], ('failed', ('value',), 'cases')), ([], ('failed', ('step',), ('unbound', 'c'))), [0, 1]]

Matchers:

>>> from partedvalues.matchers import Matcher
>>> from partedvalues.patterns import Pattern
>>> matcher = Matcher(Pattern(("row", [(("name", "a"), None), (("name", "b"), ("call", "f", [("read", "a")]))], "rest"), "soon", "nothing"))
>>> [matcher.asks, matcher("row"), matcher.asks, matcher(True), matcher(True), matcher.asks, matcher.bound(), matcher(True), matcher.calls(), matcher.done]
[('what', ('value',)), None, ('has', ('value',), 0), None, None, ('none', ('item', ('value',), 1)), [('a', ('item', ('value',), 0))], None, [('f', [('item', ('value',), 0)])], ([('f', [('item', ('value',), 0)])], ('bound', [('a', ('item', ('value',), 0)), ('b', ('result', 0)), ('rest', ('items', ('value',), 2))]))]

Texts and readings:

>>> from partedvalues.patterns import Pattern
>>> from partedvalues.readings import read_pattern
>>> from partedvalues.texts import show_pattern
>>> pattern = Pattern(("record", [("x", ("row", [(("any",), None), (("name", "a"), ("number", -3))], "more"), ("call", "f", [("read", "b"), ("call", "g", [])])), ("y", ("name", "b"), None)], "others"), "late", "absent")
>>> [show_pattern(pattern), read_pattern(show_pattern(pattern)) == pattern, show_pattern(Pattern(("row", [], None), "soon", "nothing"))]
['late absent {x: [_, a = -3, *more] = f(b, g()), y: b, **others}', True, 'soon nothing []']
>>> from partedvalues.patterns import Program
>>> from partedvalues.readings import read_program
>>> from partedvalues.texts import show_program
>>> steps = Program([("take", None, ("row", [(("name", "a"), None)], "b")), ("set", "c", ("call", "f", [("read", "b")])), ("cases", "c", [("row", [], None), ("any",)])], "soon", "absent")
>>> [show_program(steps), read_program(show_program(steps)) == steps, show_program(Program([], "late", "nothing"))]
['soon absent: take - [a, *b]; set c = f(b); cases c | [] | _', True, 'late nothing:']
"""

import doctest
import pathlib
import sys
import unittest

README = pathlib.Path(__file__).resolve().parent.parent / "README.md"


class ExamplesTest(unittest.TestCase):
    def test_examples(self):
        ended = doctest.testmod(sys.modules[__name__])
        self.assertEqual((ended.failed, ended.attempted), (0, 47))

    def test_examples_of_the_readme(self):
        ended = doctest.testfile(str(README), module_relative=False)
        self.assertEqual((ended.failed, ended.attempted), (0, 31))


if __name__ == "__main__":
    unittest.main()

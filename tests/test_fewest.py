"""The interface of `fewest`: depths of trees, and the fewest looks."""

import itertools
import unittest

from partedvalues.facts import Facts
from partedvalues.fewest import depth, fewest, shallow
from partedvalues.patterns import Pattern, Program
from partedvalues.searching import common_place
from partedvalues.trees import ends, judge, tree
from tests.shapes import (ANY, LACKS, ORDERS, VALUE, ShapeCase, bound, call, failed, item, name, number, read, record,
                          row)
from tests.test_trees import RESULT, end, has, items, none, others, what
from tests.worlds import looks_in


def soon(part, lacks="absent"):
    return Pattern(part, "soon", lacks)


class DepthTest(ShapeCase):
    def test_depths(self):
        self.assertEqual(depth(end(bound())), 0)
        self.assertEqual(depth(told=tree(soon(row()))), 1)
        self.assertEqual(depth(tree(soon(row(ANY, ANY, ANY)))), 4)
        self.assertEqual(depth(what(VALUE, end(bound()), row=has(VALUE, 0, end(bound()), end(bound())))), 2)
        self.assertEqual(depth(none(VALUE, what(RESULT, end(bound())), end(bound()))), 2)

    def test_ways_may_lack(self):
        self.assertEqual(depth(("look", ("what", VALUE), [("row", tree(soon(row(ANY))))])), 3)


class FewestTest(ShapeCase):
    def check_fewest(self, pattern, many):
        told = shallow(pattern)
        self.assertEqual((fewest(pattern), depth(told)), (many, many))
        self.assertIs(judge(pattern, told), True)
        self.assertLessEqual(many, depth(tree(pattern)))
        return told

    def test_no_looks(self):
        for order in ORDERS:
            for lacks in LACKS:
                self.assertEqual(self.check_fewest(Pattern(name("a"), order, lacks), 0), end(bound(a=VALUE)))
        self.check_fewest(Program([], "soon", "absent"), 0)
        self.check_fewest(Program([("take", "q", row())], "soon", "absent"), 0)
        told = self.check_fewest(Program([("set", "a", call("f", number(1)))], "late", "nothing"), 0)
        self.assertEqual(told, end(bound(a=RESULT), ("f", [("known", 1)])))

    def test_by_name(self):
        self.assertEqual(fewest(pattern=soon(row())), 1)
        self.assertEqual(shallow(pattern=soon(ANY)), end(bound()))

    def test_looks_that_nothing_hangs_on(self):
        self.check_fewest(soon(record(("x", ANY, number(1)), ("y", name("a"), number(2)))), 2)
        self.check_fewest(soon(record(("x", ANY, number(1)), ("y", ANY, number(2)))), 1)
        steps = [("cases", None, [row(ANY), record(("x", ANY)), ANY])]
        self.check_fewest(Program(steps, "soon", "absent"), 0)
        # The calls of both cases are the same ones.
        steps = [("cases", None, [row([ANY, call("f")]), row(), ANY]), ("set", "a", call("g"))]
        self.check_fewest(Program(steps, "soon", "absent"), 2)

    def test_one_end_for_several(self):
        told = self.check_fewest(soon(row([ANY, number(0)], rest="r")), 1)
        self.assertEqual(told[2][3], ("row", end(bound(r=items(VALUE, 1)))))
        told = self.check_fewest(soon(record(("y", ANY, number(0)), ("x", ANY, number(0)), rest="r")), 1)
        self.assertEqual(told[2][2], ("record", end(bound(r=others(VALUE, "x", "y")))))
        # The empty row is the value itself, too.
        steps = [("cases", None, [row(ANY), row(ANY, ANY)]), ("take", None, row(rest="r"))]
        self.check_fewest(Program(steps, "soon", "absent"), 2)
        steps = [("cases", None, [row([row(ANY), number(1)], rest="r"), row(rest="r"), name("r")])]
        self.check_fewest(Program(steps, "soon", "absent"), 4)
        steps = [("cases", None, [row(row(ANY)), row([ANY, number(1)])]), ("take", None, row(rest="r"))]
        self.check_fewest(Program(steps, "soon", "absent"), 1)

    def test_none_that_a_rest_or_an_item_is(self):
        steps = [("take", None, name("a")), ("cases", None, [row(rest="b"), name("b")])]
        self.check_fewest(Program(steps, "soon", "absent"), 0)
        steps = [("cases", None, [row([ANY, number(1)], rest="b"), name("b")])]
        self.check_fewest(Program(steps, "soon", "absent"), 1)

    def test_items_in_another_order(self):
        told = self.check_fewest(soon(row(ANY, ANY, ANY)), 3)
        self.assertEqual(told[2][3][1][1], ("has", VALUE, 1))
        self.check_fewest(soon(row(ANY, ANY)), 3)
        self.check_fewest(soon(row(name("a"), name("b"), name("c"))), 3)

    def test_what_in_the_place_of_none(self):
        part = row([name("a"), number(1)])
        steps = [("take", None, part), ("cases", "a", [row(), name("b")])]
        program = Program(steps, "soon", "nothing")
        self.assertEqual(depth(tree(program)), 4)
        self.check_fewest(program, 3)
        self.check_fewest(soon(part, "nothing"), 3)

    def test_results_ahead_of_calls(self):
        part = row([row(), call("f")], [row(), call("f")])
        pattern = soon(part)
        self.assertEqual(depth(tree(pattern)), 5)
        self.assertEqual(fewest(pattern), 5)
        steps = [("cases", None, [row(), record(), ANY]), ("set", "a", call("f")), ("take", "a", row())]
        told = self.check_fewest(Program(steps, "soon", "absent"), 1)
        self.assertEqual(looks_in(told), [("what", RESULT)])

    def test_one_look_tells_the_rest(self):
        # What the second field is decides whether the first one matters.
        part = record(("x", row(), number(1)), ("y", row()))
        self.check_fewest(soon(part), 5)
        steps = [("cases", None, [record(("x", ANY), ("y", ANY)), record(("y", ANY)), ANY])]
        self.check_fewest(Program(steps, "soon", "absent"), 0)
        steps = [("cases", None, [record(("x", ANY), ("y", name("a"))), record(("y", name("a"))), ANY])]
        told = self.check_fewest(Program(steps, "soon", "absent"), 2)
        self.assertEqual([look[-1] for look in looks_in(told)], [VALUE, "y"])

    def test_failing_places(self):
        self.check_fewest(soon(row(row())), 3)
        steps = [("cases", None, [row(row()), row(record()), record()])]
        self.check_fewest(Program(steps, "soon", "absent"), 3)
        program = Program([("cases", None, [row(row(ANY), ANY), row(ANY)])], "soon", "absent")
        self.check_fewest(program, 2)
        told = shallow(program)
        self.assertEqual(told[2][0], ("integer", end(failed(VALUE, "cases"))))

    def test_trees_are_new(self):
        pattern = soon(row([name("a"), call("f")], rest="r"))
        told = shallow(pattern)
        self.check_new(told, shallow(pattern))
        told[2].clear()
        self.assertEqual(depth(shallow(pattern)), 2)
        self.assertEqual(ends(shallow(pattern)), 5)

    def test_lists_of_failed_places_are_new(self):
        # One end of the tree's own stands at several ends, as `what` stands for `none`.
        steps = [("take", None, record(("y", name("b"), call("f")), rest="a")), ("take", "a", row())]
        program = Program(steps, "soon", "nothing")
        self.check_new(self.check_fewest(program, 3), shallow(program))

    def test_a_place_that_is_known_in_some_ways_alone(self):
        # Where x is None, y need not be looked at: None is what it takes, and also its default.
        steps = [("take", None, record(("x", name("q")), ("y", name("a"), read("q")))),
                 ("take", None, record(("x", name("z"), call("f")))), ("take", "z", row())]
        program = Program(steps, "soon", "nothing")
        self.assertEqual(depth(tree(program)), 6)
        self.check_fewest(program, 5)

    def test_depth_of_own_trees_of_many_orders(self):
        part = record(("x", name("a"), read("b")), ("y", name("b"), call("f")))
        for order in ORDERS:
            for lacks in LACKS:
                told = shallow(Pattern(part, order, lacks))
                self.assertTrue(judge(Pattern(part, order, lacks), told))
                self.assertEqual(depth(told), 3 if lacks == "absent" else 5)

    def test_places_are_told_by_the_answers(self):
        told = self.check_fewest(soon(row([name("a"), number(1)], rest="r"), "nothing"), 3)
        self.assertEqual(dict(dict(told[2])["row"][2])[True][1], ("what", item(VALUE, 0)))


class CommonPlaceTest(ShapeCase):
    """The one place that stands for several, whatever their sequence."""

    def check_common(self, want, *pairs):
        for found in itertools.permutations(pairs):
            self.assertEqual(common_place(list(found)), want)

    def test_common_places(self):
        path, one, two = ("value",), ("at", ("value", "x")), ("at", ("value", "y"))
        whole = Facts().with_answer(("what", path), "record")
        has_x, has_y = [whole.with_answer(("has", path, key), True) for key in "xy"]
        only_x = has_x.with_answer(("has", path, "y"), False)
        both = has_x.with_answer(("has", path, "y"), True)
        no_x = has_y.with_answer(("has", path, "x"), False)
        without = [("others", path, names) for names in (("x",), ("y",), ("x", "y"))]
        self.check_common(without[2], (only_x, without[0]), (both, without[2]), (no_x, without[1]))
        self.check_common(None, (both, without[0]), (both, without[2]))
        null = both.with_answer(("what", one[1]), "none")
        self.check_common(one, (null, ("known", None)), (both, one))
        self.check_common(None, (null, two), (both, one))
        self.check_common(None, (null, ("known", 1)), (both, one))

    def test_common_rests(self):
        path = ("value",)
        whole = Facts().with_answer(("what", path), "row")
        empty, filled = [whole.with_answer(("has", path, 0), answer) for answer in (False, True)]
        rest = ("items", path, 1)
        self.check_common(rest, (empty, ("at", path)), (filled, rest))
        self.check_common(("at", path), (empty, ("known", [])), (filled, ("at", path)), (empty, rest))
        self.check_common(None, (filled, ("at", path)), (filled, rest))


if __name__ == "__main__":
    unittest.main()

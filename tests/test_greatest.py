"""The greatest patterns, programs and trees that promise [2] allows, each answered within seconds."""

import time
import unittest

from partedvalues.compare import (alike, first_unlike, idle, lacks_alike, may_change_places, orders_alike, parting,
                                  unbound)
from partedvalues.fewest import depth, fewest, shallow
from partedvalues.patterns import Pattern, Program
from partedvalues.takes import take
from partedvalues.trees import ends, judge, tree, walk
from tests.shapes import ANY, LACKS, ORDERS, VALUE, ShapeCase, bound, call, field, name, number, read, record, row
from tests.test_trees import end, none, what
from tests.worlds import looks_in

SECONDS = 20
# 13 calls, 3 deep.
TERM = call("f", *[call("g", *[call("f")] * 3)] * 3)
# 8 parts and 4 defaults, in programs that have thousands of ways.
WIDE = (
    [("cases", None, [record(("w", record(("z", record(rest="a"), TERM), ("x", row(), TERM), rest="c"), TERM),
                             ("x", row(), TERM), rest="d"), ANY]),
     ("set", "e", call("g")), ("cases", "e", [record()])],
    [("cases", None, [record(("z", record(("y", record(), call("f")))), ("w", row(rest="d"), call("g", read("c"))),
                             rest="c"),
                      record(("x", row(row(), rest="b"), call("g")), ("y", record(), call("f")), rest="d")])],
    [("cases", None, [row(row(row([row(), call("g")], [record(), call("g")], rest="a"), [row(record()), read("a")]),
                          [row(), call("g")]), record()])],
)
PATTERNS = (record(("w", name("a"), TERM), ("x", row([ANY, TERM]), TERM), ("y", record(rest="c"), TERM),
                   ("z", name("d")), rest="e"),
            row([row([row([name("a"), TERM], ANY), TERM]), TERM], name("b"), [name("c"), read("a")], rest="e"))


class GreatestTest(ShapeCase):
    def setUp(self):
        self.begun = time.perf_counter()

    def check_time(self):
        self.assertLess(time.perf_counter() - self.begun, SECONDS)
        self.begun = time.perf_counter()

    def all_patterns(self):
        for order in ORDERS:
            for lacks in LACKS:
                yield from [Program(steps, order, lacks) for steps in WIDE]
                yield from [Pattern(part, order, lacks) for part in PATTERNS]

    def test_trees(self):
        most = 0
        for pattern in self.all_patterns():
            told = tree(pattern)
            most = max(most, ends(told))
            self.assertLessEqual(depth(told), 30)
            self.assertEqual(walk(told, 5, [0] * 80)[1], take(pattern, 5, [0] * 80)[1])
            self.assertIs(judge(pattern, told), True)
            self.check_time()
        self.assertGreater(most, 2000)

    def test_pairs(self):
        before = Program(WIDE[0], "late", "nothing")
        for pattern in list(self.all_patterns())[-5:]:
            self.assertIs(alike(pattern, pattern), True)
            self.assertFalse(orders_alike(pattern))
            self.assertFalse(lacks_alike(pattern))
            self.check_time()
            if before != pattern:
                value, results = parting(before, pattern)
                self.assertNotEqual(take(before, value, results), take(pattern, value, results))
                self.assertNotEqual(first_unlike(before, pattern), None)
            before = pattern
            self.check_time()

    def test_names_and_defaults(self):
        for pattern in self.all_patterns():
            self.assertLessEqual(len(idle(pattern)), 4)
            self.assertLessEqual(set(unbound(pattern)), {"a", "c"})
            self.check_time()
        pattern = Pattern(PATTERNS[0], "soon", "nothing")
        self.assertEqual([may_change_places(pattern, index) for index in range(3)], [False, False, False])
        self.check_time()

    def test_looks_that_nothing_hangs_on(self):
        # Both have a great many ways that all end alike, by looks that the other one does not make.
        parts = [row(*[[row([ANY, number(1)]), number(2)]] * 3)], [record(*[(letter, row(), number(1))
                                                                           for letter in "wxyz"])]
        one, other = [Program([("cases", None, each + [ANY])], "soon", "nothing") for each in parts]
        self.assertTrue(alike(one, other))
        self.assertEqual((fewest(one), fewest(other)), (0, 0))
        self.check_time()

    def test_handed_in_trees(self):
        # 30 looks on a way, and 4 to the fourth power of ends that all say the same.
        told = end(bound(a=VALUE))
        for index in range(30):
            told = what(("result", index), end(bound(a=VALUE)), row=told)
        self.assertEqual((depth(told), ends(told)), (30, 91))
        wide = end(bound(a=VALUE))
        for index in range(4):
            wide = ("look", ("what", ("result", index)), [(kind, wide) for kind in ("integer", "none", "record", "row")])
        place = ("result", 9)
        for _ in range(9):
            wide = none(place, end(bound(a=VALUE)), what(place, end(bound(a=VALUE)), record=(
                "look", ("has", place, "x"), [(True, wide), (False, end(bound(a=VALUE)))])))
            place = field(place, "x")
        pattern = Pattern(name("a"), "late", "nothing")
        self.assertIs(judge(pattern, told), True)
        self.assertEqual(walk(told, 7, [[]] * 30), ([], bound(a=VALUE)))
        self.assertEqual((ends(wide), depth(wide)), (301, 31))
        self.assertIs(judge(Program(WIDE[0], "late", "nothing"), wide), False)
        self.check_time()

    def test_right_trees_of_great_programs(self):
        # The tree asks the results first, 256 ends in all, and the program has 81 ways of its own.
        part = record(*[(letter, ANY, number(1)) for letter in "wxyz"], rest="a")
        steps = [("take", None, part)]
        program = Program(steps, "late", "nothing")
        self.assertEqual(ends(tree(program)), 84)
        failing = end(("failed", VALUE, "kind"))
        fine = what(VALUE, failing, record=end(bound(a=("others", VALUE, ["w", "x", "y", "z"]))))
        told = fine
        for index in range(3):
            told = ("look", ("what", ("result", index)), [(kind, told) for kind in ("integer", "none", "record", "row")])
        self.assertEqual(ends(told), 256)
        self.assertIs(judge(program, told), True)
        self.check_time()

    def test_fewest(self):
        eight = (record(("x", row(), number(1)), ("y", row()), ("w", ANY, TERM), ("z", row(), number(2))),
                 row([row(), TERM], [row(), call("f", TERM)]), row(row(), row(), row()))
        for part in eight:
            for order in ORDERS:
                pattern = Pattern(part, order, "absent")
                told = tree(pattern)
                self.assertLessEqual(ends(told), 40)
                self.assertLessEqual(len(looks_in(told)), 9)
                self.assertEqual(depth(shallow(pattern)), fewest(pattern))
                self.assertTrue(judge(pattern, shallow(pattern)))
                self.check_time()


if __name__ == "__main__":
    unittest.main()

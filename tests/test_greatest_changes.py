"""The greatest programs, matchers and texts that promise [2] allows, each answered within seconds."""

import time
import unittest

from partedvalues.changes import (fails, least_sets, left_over, may_exchange, may_swap, needless, surely_binds,
                                  untaken)
from partedvalues.matchers import Matcher
from partedvalues.patterns import Pattern, Program
from partedvalues.readings import read_pattern, read_program
from partedvalues.takes import looked, take
from partedvalues.texts import show_pattern, show_program
from tests.drawn import keeps_bounds
from tests.shapes import ANY, LACKS, ORDERS, ShapeCase, call, great_part, name, number, read, record, row
from tests.test_compare import cases, put, taken
from tests.test_greatest import SECONDS, TERM, WIDE
from tests.test_matchers import state

# Programs of thousands of ways; the last one has 13 calls at each default.
GREAT = [
    [put("a", call("g")),
     cases(record(("y", record(rest="b"), call("f")), ("w", record(("w", row(rest="b"))), call("g")), rest="c"), ANY),
     taken(record(("x", record(rest="b"), call("f")), ("z", row(), call("f")), rest="b"), "a")],
    [cases(record(("z", record(("z", row())), call("f")), ("x", record(rest="c"), call("f")), rest="b"), ANY),
     taken(record(("w", row(rest="b"), call("f")), ("y", row(), call("g")))), put("a", number(1))],
    [cases(record(("y", record(), TERM), rest="b"), record(("w", row(rest="b"), TERM), rest="c"), name("c")),
     put("b", call("g", number(1))), taken(row([record(("z", row(rest="c"), TERM), rest="a"), TERM]), "b")],
]


def great_term(deep):
    """A call that is so deep, with three terms in each."""
    return call("f", *[great_term(deep - 1) if deep > 1 else number(-999)] * 3)


def great_programs():
    """Programs with 24 steps, with 70 parts, and with 24 cases in a step."""
    term = great_term(5)
    wide = row(*[[name("abcdefgh"), term]] * 20, rest="r")
    yield Program([put("a", term)] * 22 + [taken(wide), taken(record(*[(letter, ANY, term) for letter in "klmno"]))],
                  "soon", "nothing")
    yield Program([put("a", number(1))] * 23 + [taken(great_part())], "late", "nothing")
    yield Program([taken(great_part())] + [put("n" + letter, call("f", read("more")))
                                           for letter in "abcdefghijklmnopqrstuvw"], "late", "absent")
    yield Program([cases(*[record((letter * 2, name(letter), call("f"))) for letter in "abcdefghijklmnopqrstuvw"],
                         name("z"))] + [cases(row(), ANY, at="q" if at == 22 else None) for at in range(23)],
                  "soon", "absent")


def lead_on(matcher, truths):
    """Tell an answer with which the taking goes on, if there is one: a row, or else a record."""
    if matcher.asks[0] != "what":
        return matcher(truths[matcher.asks[0]])
    matcher("row")
    if matcher.done is not None and matcher.done[1][0] == "failed":
        matcher.undo()
        matcher("record")


class GreatestChangesTest(ShapeCase):
    def setUp(self):
        self.begun = time.perf_counter()

    def check_time(self):
        self.assertLess(time.perf_counter() - self.begun, SECONDS)
        self.begun = time.perf_counter()

    def all_programs(self):
        for steps in GREAT + list(WIDE):
            yield Program(steps, "late", "nothing")

    def test_steps(self):
        for program in self.all_programs():
            told = needless(program)
            self.check_time()
            sets = least_sets(program)
            self.check_time()
            self.assertEqual([index for index in told if list(range(len(program))) in sets], [])
            for index in range(len(program) - 1):
                self.assertIn(may_exchange(program, index), (True, False))
                self.check_time()

    def test_cases(self):
        for program in self.all_programs():
            for index, step in enumerate(program.steps):
                if step[0] != "cases":
                    continue
                for case in range(len(step[2]) - 1):
                    self.assertIn(may_swap(program, index, case), (True, False))
                    self.check_time()
                found = left_over(program, index)
                if found is not None:
                    self.assertEqual(take(program, *found)[1][2], "cases")
                self.check_time()

    def test_ends(self):
        for program in self.all_programs():
            self.assertEqual(surely_binds(program), fails(program) == [])
            self.assertLessEqual(len(untaken(program)), 8)
            self.check_time()
        self.assertTrue(all(keeps_bounds(Program(steps, "late", "nothing")) for steps in GREAT))
        self.assertEqual([fails(Program(steps, "late", "nothing")) for steps in GREAT], [[2], [1], [2]])

    def test_matchers(self):
        for program in list(great_programs()) + [Pattern(great_part(), order, lacks) for order in ORDERS
                                                 for lacks in LACKS]:
            for truths in ({"has": True, "none": False}, {"has": True, "none": True}):
                matcher, asked = Matcher(program), []
                while matcher.asks is not None and len(matcher) < 90:
                    asked.append(matcher.asks)
                    lead_on(matcher, truths)
                self.check_time()
                self.assertEqual(state(matcher)[0], len(asked))
                self.assertTrue(matcher == matcher)
                while asked:
                    matcher.undo()
                    self.assertEqual(matcher.asks, asked.pop())
                self.assertEqual(matcher, Matcher(program))
                self.check_time()

    def test_matchers_beside_takes(self):
        value = [{letter: 1 for letter in "abcdef"}, [[[[[7]]]]], *[None, [1, 2], 3] * 5, None]
        for order in ORDERS:
            for lacks in LACKS:
                pattern = Pattern(great_part(), order, lacks)
                matcher = Matcher(pattern)
                for look, answer in looked(pattern, value, [[[]]] * 99):
                    self.assertEqual(matcher.asks, look)
                    matcher(answer)
                self.assertIsNone(matcher.asks)
                calls, end = take(pattern, value, [[[]]] * 99)
                self.assertEqual([made for made, _ in matcher.calls()], [made for made, _ in calls])
                self.assertEqual(matcher.done[1][0], end[0])
        self.check_time()

    def test_texts(self):
        for program in great_programs():
            text = show_program(program)
            self.assertEqual(read_program(text), program)
            self.check_time()
        self.assertGreater(max(len(show_program(program)) for program in great_programs()), 9000)
        text = "late nothing " + "[" * 20 + "_, " * 900 + "_" + "]" * 20
        for each in (text, text.replace("_", "{**r}", 50)):
            self.assertEqual(show_pattern(read_pattern(each)), each)
            self.assertLess(len(each), 3000)
        self.check_time()


if __name__ == "__main__":
    unittest.main()

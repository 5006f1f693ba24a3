"""Promises [2], [3], [6] to [9], [11] and the interface of `matchers`."""

import unittest

from partedvalues.errors import InvalidAnswer, NothingToUndo, TakeEnded
from partedvalues.matchers import Matcher
from partedvalues.patterns import Pattern, Program
from tests.shapes import (ANY, LACKS, ORDERS, VALUE, ShapeCase, bound, call, failed, field, item, lists_within, name,
                          number, read, record, row)
from tests.test_compare import cases, late, put, soon, steps, taken
from tests.test_trees import NOTHING, RESULT, items, known, others

KINDS = ("integer", "none", "record", "row")
BAD_KINDS = ("", "Row", "rows", "row ", "kind", "None", "True", None, True, False, 0, 1, -3, (), ("row",), ("row", 1),
             (("row",),))
BAD_TRUTHS = (0, 1, -1, 2, None, "", "True", "row", "none", (), (True,), (False, True), ((True,),))


def led(pattern, *answers):
    """A matcher that was told these answers."""
    matcher = Matcher(pattern)
    for answer in answers:
        matcher(answer)
    return matcher


def state(matcher):
    return len(matcher), matcher.asks, matcher.done, matcher.calls(), matcher.bound()


class MatcherCase(ShapeCase):
    def check_told(self, matcher, asks, calls, pairs):
        """Check what a matcher tells that has not ended."""
        self.assertEqual((matcher.asks, matcher.done), (asks, None))
        self.assertEqual((matcher.calls(), matcher.bound()), (calls, pairs))

    def check_ended(self, matcher, done, pairs):
        """Check what a matcher tells that has ended, having bound these pairs."""
        self.assertIsNone(matcher.asks)
        self.assertEqual((matcher.done, matcher.calls(), matcher.bound()), (done, done[0], pairs))


class LedTest(MatcherCase):
    def test_no_looks(self):
        for order in ORDERS:
            for lacks in LACKS:
                self.check_ended(Matcher(Pattern(ANY, order, lacks)), ([], bound()), [])
                self.check_ended(Matcher(Pattern(name("a"), order, lacks)), ([], bound(a=VALUE)), [("a", VALUE)])
        self.check_ended(Matcher(steps()), ([], bound()), [])
        self.check_ended(Matcher(steps(cases())), ([], failed(VALUE, "cases")), [])
        program = steps(put("b", call("f", number(1), call("g"))), put("a", read("b")))
        self.check_ended(Matcher(program), ([("g", []), ("f", [known(1), RESULT])], bound(a=("result", 1),
                                                                                          b=("result", 1))),
                         [("a", ("result", 1)), ("b", ("result", 1))])

    def test_a_row(self):
        matcher = Matcher(soon(row([name("a"), number(4)], name("b"), rest="r")))
        self.check_told(matcher, ("what", VALUE), [], [])
        self.assertIsNone(matcher("row"))
        self.check_told(matcher, ("has", VALUE, 0), [], [])
        self.assertIsNone(matcher(True))
        self.check_told(matcher, ("has", VALUE, 1), [], [("a", item(VALUE, 0))])
        self.assertIsNone(matcher(True))
        pairs = [("a", item(VALUE, 0)), ("b", item(VALUE, 1)), ("r", items(VALUE, 2))]
        self.check_ended(matcher, ([], ("bound", pairs)), pairs)

    def test_every_answer_of_what(self):
        pattern = soon(record(rest="a"))
        for kind in KINDS:
            end = bound(a=VALUE) if kind == "record" else failed(VALUE, "kind")
            self.check_ended(led(pattern, kind), ([], end), [("a", VALUE)] if kind == "record" else [])

    def test_what_lacks(self):
        part = row([name("a"), call("f")], [name("b"), read("a")])
        matcher = led(soon(part, "nothing"), "row", True)
        self.check_told(matcher, ("none", item(VALUE, 0)), [], [])
        matcher(True)
        # None is known to be there, and what lacks has taken its default.
        self.check_told(matcher, ("has", VALUE, 1), [("f", [])], [("a", RESULT)])
        matcher(False)
        self.check_ended(matcher, ([("f", [])], bound(a=RESULT, b=RESULT)), [("a", RESULT), ("b", RESULT)])
        # Behind an item that lacks all others lack, too.
        self.check_ended(led(soon(part), "row", False), ([("f", [])], bound(a=RESULT, b=RESULT)),
                         [("a", RESULT), ("b", RESULT)])

    def test_late_defaults_come_late(self):
        part = record(("x", name("a"), call("f", read("b"))), ("y", name("b")), ("z", name("c"), number(1)))
        matcher = led(late(part), "record", False)
        self.check_told(matcher, ("has", VALUE, "y"), [], [])
        matcher(True)
        self.check_told(matcher, ("has", VALUE, "z"), [], [("b", field(VALUE, "y"))])
        matcher(False)
        pairs = [("a", RESULT), ("b", field(VALUE, "y")), ("c", known(1))]
        self.check_ended(matcher, ([("f", [field(VALUE, "y")])], ("bound", pairs)), pairs)
        soon_one = led(soon(part), "record", False)
        self.check_ended(soon_one, ([], failed(field(VALUE, "x"), ("unbound", "b"))), [])

    def test_results_are_asked(self):
        matcher = led(soon(row([row(name("a"), rest="r"), call("f", number(7))])), "row", False)
        self.check_told(matcher, ("what", RESULT), [("f", [known(7)])], [])
        matcher("row")
        self.assertEqual(matcher.asks, ("has", RESULT, 0))
        matcher(True)
        pairs = [("a", item(RESULT, 0)), ("r", items(RESULT, 1))]
        self.check_ended(matcher, ([("f", [known(7)])], ("bound", pairs)), pairs)

    def test_places_by_the_answers_up_to_now(self):
        program = steps(taken(row(name("a"), rest="r")), put("b", call("f", read("a"), read("r"))),
                        cases(row([ANY, number(1)], [ANY, number(2)]), ANY), cases(row(), ANY, at="a"), lacks="nothing")
        matcher = led(program, "row", True)
        self.check_told(matcher, ("none", item(VALUE, 0)), [("f", [item(VALUE, 0), items(VALUE, 1)])],
                        [("a", item(VALUE, 0)), ("b", RESULT), ("r", items(VALUE, 1))])
        matcher(True)
        self.check_told(matcher, ("has", VALUE, 1), [("f", [NOTHING, items(VALUE, 1)])],
                        [("a", NOTHING), ("b", RESULT), ("r", items(VALUE, 1))])
        matcher(False)
        self.check_ended(matcher, ([("f", [NOTHING, known([])])], bound(a=NOTHING, b=RESULT, r=known([]))),
                         [("a", NOTHING), ("b", RESULT), ("r", known([]))])
        matcher.undo()
        matcher(True)
        self.check_told(matcher, ("none", item(VALUE, 1)), [("f", [NOTHING, items(VALUE, 1)])],
                        [("a", NOTHING), ("b", RESULT), ("r", items(VALUE, 1))])

    def test_the_row_itself_gets_known(self):
        program = steps(taken(name("a")), cases(row(row(ANY)), row(ANY, ANY)), taken(ANY))
        for answers, place in ((("row",), VALUE), (("row", False), known([])), (("row", True), VALUE),
                               (("row", True, "none"), VALUE), (("row", True, "none", False), known([None])),
                               (("row", True, "row", False, False), known([[]]))):
            self.assertEqual(led(program, *answers).bound(), [("a", place)], answers)

    def test_others(self):
        program = steps(taken(record(("x", ANY, number(1)), ("y", ANY, number(2)), rest="r")),
                        taken(record(("y", ANY, number(3)), ("z", ANY, number(4)), rest="r"), "r"),
                        cases(record(("w", ANY)), ANY, at="r"))
        for first, place in (((False, False), VALUE), ((True, False), others(VALUE, "x")),
                             ((False, True), others(VALUE, "y")), ((True, True), others(VALUE, "x", "y"))):
            matcher = led(program, "record", *first)
            self.check_told(matcher, ("has", VALUE, "z"), [], [("r", place)])
            self.assertEqual(led(program, "record", *first, False).bound(), [("r", place)])
        self.assertEqual(led(program, "record", False, False, True).bound(), [("r", others(VALUE, "z"))])
        self.check_told(led(program, "record", True, False, True), ("has", VALUE, "w"), [],
                        [("r", others(VALUE, "x", "z"))])

    def test_failing_ends_keep_what_is_bound_up_to_then(self):
        matcher = led(soon(row(name("a"), [name("b"), call("f")], name("c"))), "row", True, False)
        self.check_ended(matcher, ([("f", [])], failed(VALUE, ("item", 2))), [("a", item(VALUE, 0)), ("b", RESULT)])
        matcher = led(steps(put("a", number(1)), taken(row())), "none")
        self.check_ended(matcher, ([], failed(VALUE, "kind")), [("a", known(1))])
        matcher = Matcher(steps(put("a", number(1)), put("b", call("f", read("q")))))
        self.check_ended(matcher, ([], failed(("step",), ("unbound", "q"))), [("a", known(1))])


class CasesTest(MatcherCase):
    PROGRAM = steps(put("a", number(1)), cases(row([name("a"), call("f")], [name("b"), call("g")], row()),
                                               record(("x", name("b")), ("y", row()), rest="a"), ANY),
                    put("c", read("a")))

    def test_what_a_case_binds_is_lost_when_it_fails(self):
        matcher = led(self.PROGRAM, "row", True, True)
        self.check_told(matcher, ("has", VALUE, 2), [],
                        [("a", item(VALUE, 0)), ("b", item(VALUE, 1))])
        matcher(False)
        self.check_ended(matcher, ([], bound(a=known(1), c=known(1))), [("a", known(1)), ("c", known(1))])
        matcher = led(self.PROGRAM, "record", True)
        self.check_told(matcher, ("has", VALUE, "y"), [], [("a", known(1)), ("b", field(VALUE, "x"))])
        matcher(True)
        matcher("row")
        pairs = [("a", others(VALUE, "x", "y")), ("b", field(VALUE, "x")), ("c", others(VALUE, "x", "y"))]
        self.check_ended(matcher, ([], ("bound", pairs)), pairs)

    def test_calls_of_a_case_that_fails_stay(self):
        matcher = led(self.PROGRAM, "row", True, False)
        self.check_ended(matcher, ([("g", [])], bound(a=known(1), c=known(1))), [("a", known(1)), ("c", known(1))])
        matcher = led(self.PROGRAM, "row", False)
        self.check_ended(matcher, ([("f", []), ("g", [])], bound(a=known(1), c=known(1))),
                         [("a", known(1)), ("c", known(1))])

    def test_a_look_is_not_asked_again_by_the_next_case(self):
        for kind in ("integer", "none"):
            self.check_ended(led(self.PROGRAM, kind), ([], bound(a=known(1), c=known(1))),
                             [("a", known(1)), ("c", known(1))])
        self.assertEqual(led(self.PROGRAM, "record").asks, ("has", VALUE, "x"))

    def test_none_of_the_cases(self):
        program = steps(put("a", number(1)), cases(row(name("a"), ANY), row(name("a"), row())))
        matcher = led(program, "row", True, False)
        self.check_ended(matcher, ([], failed(VALUE, "cases")), [("a", known(1))])
        self.check_ended(led(program, "integer"), ([], failed(VALUE, "cases")), [("a", known(1))])


class AnswersTest(MatcherCase):
    PATTERN = soon(row([row(name("a")), call("f")]), "nothing")

    def check_refused(self, matcher, error, values, refused=None):
        """Check that answers are refused, and change nothing."""
        before, again = state(matcher), led(self.PATTERN)
        for value in values:
            self.check_error(error, value if refused is None else refused, matcher, value)
            self.assertEqual(state(matcher), before)
        self.assertEqual(matcher == again, len(matcher) == 0)

    def test_answers_of_what(self):
        self.check_refused(Matcher(self.PATTERN), InvalidAnswer, BAD_KINDS)
        self.check_refused(led(self.PATTERN, "row", False), InvalidAnswer, BAD_KINDS)
        self.assertEqual(led(self.PATTERN, "row", False, "none").done, ([("f", [])], failed(RESULT, "kind")))

    def test_none_is_no_answer_where_it_was_answered_with_false(self):
        matcher = led(self.PATTERN, "row", True, False)
        self.assertEqual(matcher.asks, ("what", item(VALUE, 0)))
        self.check_refused(matcher, InvalidAnswer, BAD_KINDS + ("none",))
        matcher("integer")
        self.assertEqual(matcher.done, ([], failed(item(VALUE, 0), "kind")))

    def test_answers_of_has_and_none(self):
        for answers in (("row",), ("row", True), ("row", True, False, "row")):
            self.check_refused(led(self.PATTERN, *answers), InvalidAnswer, BAD_TRUTHS)

    def test_behind_the_end(self):
        for matcher in (led(self.PATTERN, "none"), led(self.PATTERN, "row", True, False, "row", True)):
            self.check_refused(matcher, TakeEnded, BAD_KINDS + BAD_TRUTHS + KINDS + (True, False), 0)
        self.check_error(TakeEnded, 0, Matcher(soon(ANY)), "row")

    def test_by_name(self):
        matcher = Matcher(pattern=self.PATTERN)
        self.assertIsNone(matcher(answer="row"))
        self.check_error(InvalidAnswer, "row", matcher, answer="row")
        self.assertEqual(len(matcher), 1)


class UndoTest(MatcherCase):
    PROGRAM = steps(taken(row([name("a"), call("f")], rest="r")), cases(row(name("b")), name("c"), at="a"),
                    lacks="nothing")

    def test_nothing_to_undo(self):
        for pattern in (soon(ANY), soon(row()), self.PROGRAM, steps()):
            matcher = Matcher(pattern)
            before = state(matcher)
            for _ in range(2):
                self.check_error(NothingToUndo, 0, matcher.undo)
                self.assertEqual(state(matcher), before)

    def test_back_to_the_beginning(self):
        matcher, states = Matcher(self.PROGRAM), []
        for answer in ("row", True, False, "row", True):
            states.append(state(matcher))
            matcher(answer)
        self.assertEqual(matcher.done, ([], bound(a=item(VALUE, 0), b=item(item(VALUE, 0), 0), r=items(VALUE, 1))))
        while states:
            self.assertIsNone(matcher.undo())
            self.assertEqual(state(matcher), states.pop())
        self.check_error(NothingToUndo, 0, matcher.undo)
        self.assertEqual(matcher, Matcher(self.PROGRAM))

    def test_another_answer(self):
        matcher = led(self.PROGRAM, "row", True, True)
        self.check_told(matcher, ("what", RESULT), [("f", [])], [("a", RESULT), ("r", items(VALUE, 1))])
        matcher.undo()
        self.check_told(matcher, ("none", item(VALUE, 0)), [], [])
        matcher(False)
        self.assertEqual(matcher, led(self.PROGRAM, "row", True, False))
        self.check_error(InvalidAnswer, "none", matcher, "none")
        matcher("record")
        matcher.undo()
        matcher.undo()
        matcher.undo()
        matcher(False)
        self.assertEqual(state(matcher), state(led(self.PROGRAM, "row", False)))

    def test_len(self):
        matcher = Matcher(self.PROGRAM)
        self.assertEqual(len(matcher), 0)
        for many, answer in enumerate(("row", True, False, "integer")):
            matcher(answer)
            self.assertEqual(len(matcher), many + 1)
            self.check_error(TakeEnded if many == 3 else InvalidAnswer, 0 if many == 3 else 5, matcher, 5)
            self.assertEqual(len(matcher), many + 1)
        matcher.undo()
        self.assertEqual(len(matcher), 3)


class EqualTest(MatcherCase):
    PART = row([name("a"), number(1)], rest="r")

    def test_equal(self):
        for answers in ((), ("row",), ("row", True), ("row", False), ("integer",)):
            one, other = led(soon(self.PART), *answers), led(soon(self.PART), *answers)
            self.assertTrue(one == other)
            self.assertFalse(one != other)
            self.assertTrue(one == one)
        program = steps(taken(self.PART))
        self.assertTrue(led(program, "row") == led(steps(taken(self.PART)), "row"))

    def test_other_answers(self):
        ends = [led(soon(self.PART), *answers) for answers in ((), ("row",), ("row", True), ("row", False),
                                                               ("integer",), ("none",), ("record",))]
        for at, one in enumerate(ends):
            for place, other in enumerate(ends):
                self.assertEqual((one == other, one != other), (at == place, at != place))

    def test_other_patterns(self):
        one = Matcher(soon(self.PART))
        for pattern in (late(self.PART), soon(self.PART, "nothing"), soon(row([name("a"), number(1)])),
                        steps(taken(self.PART)), steps(cases(self.PART)), soon(row([name("a"), number(2)], rest="r"))):
            self.assertTrue(one != Matcher(pattern))
            self.assertFalse(Matcher(pattern) == one)
        # Also where they have ended, and do the same.
        self.assertFalse(Matcher(soon(name("a"))) == Matcher(steps(taken(name("a")))))
        self.assertFalse(led(soon(row()), "row") == led(late(row()), "row"))

    def test_nothing_else(self):
        matcher = led(soon(row()), "row")
        for other in (None, 0, 1, "row", ["row"], soon(row()), (soon(row()), ["row"]), matcher.done):
            self.assertFalse(matcher == other)
            self.assertTrue(matcher != other)

    def test_each_on_its_own(self):
        pattern = soon(self.PART)
        one, other = Matcher(pattern), Matcher(pattern)
        one("row")
        self.assertEqual((len(one), len(other), other.asks), (1, 0, ("what", VALUE)))
        self.assertFalse(one == other)
        other("row")
        self.assertTrue(one == other)
        one.undo()
        self.assertEqual((len(one), len(other)), (0, 1))


class ListsTest(MatcherCase):
    PROGRAM = steps(taken(row([name("a"), call("f", number(1))], rest="r")),
                    taken(record(("x", name("b"), call("g", read("r"), read("r"))), rest="o"), "a"),
                    cases(row(ANY, ANY), ANY), put("c", read("r")), put("d", read("o")))

    def test_lists_are_new(self):
        for answers in ((), ("row",), ("row", False), ("row", False, "record"), ("row", False, "record", False),
                        ("row", True, "record", True), ("row", True, "record", True, False)):
            matcher = led(self.PROGRAM, *answers)
            told = (matcher.calls(), matcher.bound(), matcher.done)
            self.check_new(told, (matcher.calls(), matcher.bound(), matcher.done))

    def test_known_rows_stand_in_one_place_alone(self):
        matcher = led(self.PROGRAM, "row", True, "record", True, False)
        pairs = matcher.done[1][1]
        self.assertEqual(pairs[-1], ("r", known([])))
        self.assertEqual(dict(pairs)["o"], others(item(VALUE, 0), "x"))
        self.assertEqual(dict(pairs)["c"], known([]))
        self.check_new(pairs)

    def test_changed_lists_change_nothing(self):
        for answers in (("row", False), ("row", False, "record"), ("row", True, "record", False, False),
                        ("row", False, "record", True), ("row", True, "record", True, True)):
            matcher = led(self.PROGRAM, *answers)
            before = state(matcher)
            for told in (matcher.calls(), matcher.bound(), matcher.done):
                for each in lists_within(told):
                    each.clear()
            self.assertEqual(state(matcher), before)
            matcher.undo()
            matcher(answers[-1])
            self.assertEqual(state(matcher), before)

    def test_properties_cannot_be_set(self):
        matcher = Matcher(self.PROGRAM)
        for word in ("asks", "done"):
            with self.assertRaises(AttributeError):
                setattr(matcher, word, None)

    def test_the_pattern_stays(self):
        again = Program(self.PROGRAM.steps, "soon", "absent")
        matcher = led(self.PROGRAM, "row", True)
        matcher.undo()
        self.assertEqual(self.PROGRAM, again)


if __name__ == "__main__":
    unittest.main()

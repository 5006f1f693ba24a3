"""Promises [7] to [11] as trees tell them, and the interface of `trees`."""

import copy
import unittest

from partedvalues.errors import InvalidAnswer, TakeEnded, UnknownPlace
from partedvalues.fewest import depth
from partedvalues.patterns import Pattern, Program
from partedvalues.takes import take
from partedvalues.trees import ends, judge, tree, walk
from tests.shapes import (ANY, LACKS, ORDERS, VALUE, ShapeCase, bound, call, failed, field, item, name, number, read,
                          record, row)
from tests.worlds import ends_in, looks_in

KINDS = ["integer", "none", "record", "row"]
NOTHING = ("known", None)
RESULT = ("result", 0)


def known(value):
    return ("known", value)


def items(place, index):
    return ("items", place, index)


def others(place, *names):
    return ("others", place, list(names))


def end(done, *calls):
    return ("end", (list(calls), done))


def what(place, otherwise, **ways):
    """A look with one end for all kinds but those that have a way of their own."""
    return ("look", ("what", place), [(kind, ways.get(kind, otherwise)) for kind in KINDS])


def has(place, key, true, false):
    return ("look", ("has", place, key), [(True, true), (False, false)])


def none(place, true, false):
    return ("look", ("none", place), [(True, true), (False, false)])


def tree_of(part, order="soon", lacks="absent"):
    return tree(Pattern(part, order, lacks))


def tree_of_steps(steps, order="soon", lacks="absent"):
    return tree(Program(steps, order, lacks))


def end_at(told, *answers):
    """What stands at the end of the way with these answers."""
    for answer in answers:
        told = dict(told[2])[answer]
    assert told[0] == "end", told
    return told[1]


def no_row(place):
    return end(failed(place, "kind"))


class TreeTest(ShapeCase):
    def test_no_looks(self):
        for order in ORDERS:
            for lacks in LACKS:
                self.assertEqual(tree_of(ANY, order, lacks), end(bound()))
                self.assertEqual(tree_of(name("a"), order, lacks), end(bound(a=VALUE)))
        self.assertEqual(tree_of_steps([]), end(bound()))
        self.assertEqual(tree_of_steps([("set", "a", call("f", number(1), call("g")))]),
                         end(bound(a=("result", 1)), ("g", []), ("f", [known(1), RESULT])))

    def test_a_row(self):
        for order in ORDERS:
            self.assertEqual(tree_of(row([name("a"), number(4)], name("b")), order), what(VALUE, no_row(VALUE), row=has(
                VALUE, 0, has(VALUE, 1, end(bound(a=item(VALUE, 0), b=item(VALUE, 1))),
                              end(failed(VALUE, ("item", 1)))),
                end(failed(VALUE, ("item", 1))))))

    def test_a_record(self):
        self.assertEqual(tree_of(record(("y", name("b")), ("x", name("a"), read("b")))),
                         what(VALUE, no_row(VALUE), record=has(
                             VALUE, "y",
                             has(VALUE, "x", end(bound(a=field(VALUE, "x"), b=field(VALUE, "y"))),
                                 end(bound(a=field(VALUE, "y"), b=field(VALUE, "y")))),
                             end(failed(VALUE, ("field", "y"))))))

    def test_what_behind_none(self):
        first = item(VALUE, 0)
        kinds = ("look", ("what", first), [("integer", no_row(first)), ("record", no_row(first)),
                                           ("row", end(bound()))])
        self.assertEqual(tree_of(row([row(), number(4)]), lacks="nothing"), what(VALUE, no_row(VALUE), row=has(
            VALUE, 0, none(first, end(failed(known(4), "kind")), kinds), end(failed(known(4), "kind")))))

    def test_what_behind_true_follows(self):
        steps = [("take", None, row([ANY, number(1)], rest="r")), ("cases", None, [row(row()), ANY])]
        told = tree_of_steps(steps, lacks="nothing")
        self.assertEqual(end_at(told, "row", True, True), ([], bound(r=items(VALUE, 1))))
        self.assertEqual(looks_in(told), [("what", VALUE), ("has", VALUE, 0), ("none", item(VALUE, 0)),
                                          ("what", item(VALUE, 0))])

    def test_soon_and_late(self):
        part = row([name("a"), call("f")], name("b"))
        soon, late = tree_of(part, "soon", "nothing"), tree_of(part, "late", "nothing")
        self.assertEqual(end_at(soon, "row", True, True, False), ([("f", [])], failed(VALUE, ("item", 1))))
        self.assertEqual(end_at(late, "row", True, True, False), ([], failed(VALUE, ("item", 1))))
        self.assertEqual(end_at(late, "row", True, True, True), ([("f", [])], bound(a=RESULT, b=item(VALUE, 1))))

    def test_results_are_looked_at(self):
        told = tree_of(row([row([name("a"), number(1)], rest="r"), call("f")]))
        self.assertEqual(end_at(told, "row", False, "row", False),
                         ([("f", [])], bound(a=known(1), r=known([]))))
        self.assertEqual(end_at(told, "row", False, "row", True),
                         ([("f", [])], bound(a=item(RESULT, 0), r=items(RESULT, 1))))
        self.assertEqual(end_at(told, "row", False, "none"), ([("f", [])], failed(RESULT, "kind")))

    def test_ways_and_looks_are_as_many_as_the_things_at_most(self):
        part = record(("x", row([ANY, number(1)], [ANY, number(2)]), call("f")), ("y", record(), number(3)))
        for order in ORDERS:
            for lacks in LACKS:
                # 5 parts, 4 items and fields, 4 defaults.
                self.assertLessEqual(depth(tree_of(part, order, lacks)), 13)

    def test_a_pattern_does_as_one_take(self):
        part = row([record(("x", name("a"), number(1)), rest="b"), call("f")], rest="r")
        for order in ORDERS:
            for lacks in LACKS:
                self.assertEqual(tree_of(part, order, lacks), tree_of_steps([("take", None, part)], order, lacks))

    def test_a_changed_tree_is_asked_again(self):
        pattern = Pattern(row([name("a"), call("f", number(1))], rest="r"), "late", "nothing")
        told = tree(pattern)
        again = copy.deepcopy(told)
        for calls, end_of_way in ends_in(told):
            calls.append(("g", []))
            if end_of_way[0] == "bound":
                end_of_way[1].clear()
        told[2].reverse()
        self.assertEqual(tree(pattern), again)
        self.check_new(tree(pattern), tree(pattern), told)


class KnownTest(ShapeCase):
    """What the answers leave no choice of, and what they do."""

    def test_none(self):
        told = tree_of(row([name("a"), number(1)], rest="r"), lacks="nothing")
        self.assertEqual(end_at(told, "row", True, True)[1], bound(a=known(1), r=items(VALUE, 1)))
        steps = [("take", None, row(name("a"))), ("cases", "a", [row(), ANY])]
        for kind, place in (("none", NOTHING), ("integer", item(VALUE, 0)), ("record", item(VALUE, 0)),
                            ("row", item(VALUE, 0))):
            self.assertEqual(end_at(tree_of_steps(steps), "row", True, kind)[1], bound(a=place))

    def test_none_by_none(self):
        steps = [("take", None, row(name("a"))), ("take", None, row([ANY, number(1)]))]
        told = tree_of_steps(steps, lacks="nothing")
        self.assertEqual(end_at(told, "row", True, True)[1], bound(a=NOTHING))
        self.assertEqual(end_at(told, "row", True, False)[1], bound(a=item(VALUE, 0)))

    def test_the_empty_row(self):
        steps = [("set", "b", number(0)), ("take", None, name("a")), ("cases", "a", [row(ANY), ANY])]
        told = tree_of_steps(steps)
        self.assertEqual(end_at(told, "row", False)[1], bound(a=known([]), b=known(0)))
        self.assertEqual(end_at(told, "row", True)[1], bound(a=VALUE, b=known(0)))
        self.assertEqual(end_at(told, "none")[1], bound(a=NOTHING, b=known(0)))
        self.assertEqual(end_at(told, "record")[1], bound(a=VALUE, b=known(0)))

    def test_rows_of_known_items(self):
        steps = [("take", None, name("a")), ("cases", None, [row([ANY, number(1)], [row(ANY), number(1)], ANY), ANY])]
        told = tree_of_steps(steps, lacks="nothing")
        self.assertEqual(end_at(told, "row", False)[1], bound(a=known([])))
        # The number 1 is no row, so the cases fail where the second item lacks.
        self.assertEqual(end_at(told, "row", True, True, False)[1], bound(a=known([None])))
        self.assertEqual(end_at(told, "row", True, False, False)[1], bound(a=VALUE))
        # Whether a further item is there has not been asked.
        self.assertEqual(end_at(told, "row", True, True, True, True)[1], bound(a=VALUE))
        self.assertEqual(end_at(told, "row", True, True, True, False, "row", False)[1], bound(a=VALUE))

    def test_rows_within_rows(self):
        steps = [("take", None, row(name("b"), rest="r")), ("cases", "b", [row(row(ANY)), row(ANY), ANY]),
                 ("cases", "r", [row(ANY), ANY])]
        told = tree_of_steps(steps)
        self.assertEqual(end_at(told, "row", True, "row", False, False)[1], bound(b=known([]), r=known([])))
        self.assertEqual(end_at(told, "row", True, "row", False, True)[1], bound(b=known([]), r=items(VALUE, 1)))
        self.assertEqual(end_at(told, "row", True, "none", False)[1], bound(b=NOTHING, r=known([])))
        steps = [("take", None, name("a")), ("cases", None, [row(ANY, ANY), ANY]),
                 ("cases", None, [row(row(ANY, ANY)), ANY]), ("cases", None, [row(row(row())), ANY])]
        told = tree_of_steps(steps)
        self.assertEqual(end_at(told, "row", True, False, "row", False)[1], bound(a=known([[]])))
        self.assertEqual(end_at(told, "row", True, False, "row", True, False, "none")[1], bound(a=known([[None]])))
        self.assertEqual(end_at(told, "row", True, False, "row", True, True, "none")[1], bound(a=VALUE))
        self.assertEqual(end_at(told, "row", True, False, "row", True, False, "row")[1], bound(a=VALUE))
        self.assertEqual(end_at(told, "row", True, True, "row", False)[1], bound(a=VALUE))

    def test_rests_of_known_items(self):
        steps = [("take", None, row(ANY, rest="r")), ("cases", "r", [row([ANY, number(1)], ANY), ANY])]
        told = tree_of_steps(steps, lacks="nothing")
        self.assertEqual(end_at(told, "row", True, False)[1], bound(r=known([])))
        self.assertEqual(end_at(told, "row", True, True, True, False)[1], bound(r=known([None])))
        self.assertEqual(end_at(told, "row", True, True, False, False)[1], bound(r=items(VALUE, 1)))
        self.assertEqual(end_at(told, "row", True, True, True, True)[1], bound(r=items(VALUE, 1)))

    def test_calls_are_told_by_later_answers(self):
        steps = [("take", None, row(name("a"), rest="r")), ("set", "b", call("f", read("a"), read("r"))),
                 ("cases", "a", [row(), ANY])]
        told = tree_of_steps(steps)
        self.assertEqual(end_at(told, "row", True, "none"),
                         ([("f", [NOTHING, items(VALUE, 1)])], bound(a=NOTHING, b=RESULT, r=items(VALUE, 1))))
        failing = tree_of_steps(steps[:2] + [("take", "a", row())])
        self.assertEqual(end_at(failing, "row", True, "none"),
                         ([("f", [NOTHING, items(VALUE, 1)])], failed(item(VALUE, 0), "kind")))
        failing = tree_of_steps(steps[:2] + [("take", "r", row(ANY))])
        self.assertEqual(end_at(failing, "row", True, False),
                         ([("f", [item(VALUE, 0), known([])])], failed(items(VALUE, 1), ("item", 0))))

    def test_results_may_be_known(self):
        steps = [("set", "a", call("f")), ("cases", "a", [row(ANY), ANY]), ("set", "b", call("g", read("a")))]
        told = tree_of_steps(steps)
        for ways, place in ((["none"], NOTHING), (["row", False], known([])), (["row", True], RESULT),
                            (["integer"], RESULT)):
            self.assertEqual(end_at(told, *ways),
                             ([("f", []), ("g", [place])], bound(a=place, b=("result", 1))))


class RestsTest(ShapeCase):
    def test_rests_of_rests(self):
        steps = [("take", None, row(ANY, rest="r")), ("take", "r", row(name("a"), ANY, rest="s")),
                 ("take", "s", row(rest="t"))]
        told = tree_of_steps(steps)
        self.assertEqual(end_at(told, "row", True, True, True)[1], bound(
            a=item(VALUE, 1), r=items(VALUE, 1), s=items(VALUE, 3), t=items(VALUE, 3)))
        self.assertEqual(end_at(told, "row", True, True, False)[1], failed(items(VALUE, 1), ("item", 1)))

    def test_a_rest_from_0_on_is_the_row(self):
        self.assertEqual(end_at(tree_of(row(rest="r")), "row")[1], bound(r=VALUE))
        told = tree_of_steps([("take", None, row(row(rest="r"))), ("take", "r", row(rest="s"))])
        self.assertEqual(end_at(told, "row", True, "row")[1], bound(r=item(VALUE, 0), s=item(VALUE, 0)))

    def test_others_name_the_fields_that_are_there(self):
        told = tree_of(record(("y", ANY, number(1)), ("x", ANY, number(2)), rest="r"))
        for y, x, place in ((True, True, others(VALUE, "x", "y")), (True, False, others(VALUE, "y")),
                            (False, True, others(VALUE, "x")), (False, False, VALUE)):
            self.assertEqual(end_at(told, "record", y, x)[1], bound(r=place))
        self.assertEqual(end_at(tree_of(record(rest="r")), "record")[1], bound(r=VALUE))

    def test_others_of_others(self):
        steps = [("take", None, record(("y", ANY), rest="r")), ("take", "r", record(("x", ANY, number(1)), rest="s")),
                 ("take", "s", record(("z", name("a"), number(2)), ("y", name("b"), number(3)), rest="t"))]
        told = tree_of_steps(steps)
        self.assertEqual(end_at(told, "record", True, True, True)[1], bound(
            a=field(VALUE, "z"), b=known(3), r=others(VALUE, "y"), s=others(VALUE, "x", "y"),
            t=others(VALUE, "x", "y", "z")))
        self.assertEqual(end_at(told, "record", True, False, False)[1], bound(
            a=known(2), b=known(3), r=others(VALUE, "y"), s=others(VALUE, "y"), t=others(VALUE, "y")))

    def test_failed_places_are_told_by_themselves(self):
        others_fail = tree_of_steps([("take", None, record(("y", ANY, number(1)), ("x", ANY, number(2)), rest="r")),
                                     ("take", "r", row())])
        for y in (True, False):
            for x in (True, False):
                self.assertEqual(end_at(others_fail, "record", y, x)[1], failed(others(VALUE, "x", "y"), "kind"))
        rest_fails = tree_of_steps([("take", None, row([ANY, number(1)], rest="r")), ("take", "r", record())])
        for there in (True, False):
            self.assertEqual(end_at(rest_fails, "row", there)[1], failed(items(VALUE, 1), "kind"))
        number_fails = tree_of_steps([("set", "a", number(-7)), ("take", "a", record())])
        self.assertEqual(number_fails, end(failed(known(-7), "kind")))
        self.assertEqual(end_at(tree_of(row(row())), "row", True, "none")[1], failed(item(VALUE, 0), "kind"))
        lacks = tree_of_steps([("take", None, record(("y", ANY, number(1)), rest="r")),
                               ("take", "r", record(("x", ANY)))])
        self.assertEqual(end_at(lacks, "record", False, False)[1], failed(others(VALUE, "y"), ("field", "x")))

    def test_unbound_names(self):
        told = tree_of(record(("x", row([ANY, read("a")], [name("a"), read("b")]))))
        at_x = field(VALUE, "x")
        self.assertEqual(end_at(told, "record", True, "row", False)[1], failed(item(at_x, 0), ("unbound", "a")))
        self.assertEqual(end_at(told, "record", True, "row", True, False)[1], failed(item(at_x, 1), ("unbound", "b")))


class ProgramTreeTest(ShapeCase):
    def test_cases(self):
        told = tree_of_steps([("cases", None, [row(name("a"), row()), record(rest="b"), row(name("c"))])])
        self.assertEqual(end_at(told, "row", False)[1], failed(VALUE, "cases"))
        self.assertEqual(end_at(told, "row", True, True, "row")[1], bound(a=item(VALUE, 0)))
        # What the first case bound is lost, and its looks stay.
        self.assertEqual(end_at(told, "row", True, True, "none")[1], bound(c=item(VALUE, 0)))
        self.assertEqual(end_at(told, "row", True, False)[1], bound(c=item(VALUE, 0)))
        self.assertEqual(end_at(told, "record")[1], bound(b=VALUE))
        self.assertEqual(end_at(told, "integer")[1], failed(VALUE, "cases"))

    def test_calls_of_failed_cases_stay(self):
        part = row([row(), call("f")])
        told = tree_of_steps([("set", "a", number(1)), ("cases", None, [part, name("a")])])
        self.assertEqual(end_at(told, "row", False, "integer"), ([("f", [])], bound(a=known([]))))
        self.assertEqual(end_at(told, "row", False, "row"), ([("f", [])], bound(a=known(1))))

    def test_no_cases(self):
        self.assertEqual(tree_of_steps([("cases", None, [])]), end(failed(VALUE, "cases")))
        self.assertEqual(tree_of_steps([("set", "a", number(3)), ("cases", "a", [row()])]),
                         end(failed(known(3), "cases")))

    def test_steps_of_unbound_names(self):
        step = failed(("step",), ("unbound", "q"))
        for steps in ([("take", "q", ANY)], [("cases", "q", [])], [("set", "a", read("q"))]):
            self.assertEqual(tree_of_steps(steps), end(step))
        self.assertEqual(tree_of_steps([("set", "a", call("f", call("g"), read("q")))]), end(step, ("g", [])))


class WalkTest(ShapeCase):
    def test_as_take(self):
        pattern = Pattern(row([name("a"), call("f", number(3))], rest="r"), "late", "nothing")
        told = tree(pattern)
        self.assertEqual(walk(told, 5, []), ([], failed(VALUE, "kind")))
        self.assertEqual(walk(told, [1, 2], []), ([], bound(a=item(VALUE, 0), r=items(VALUE, 1))))
        self.assertEqual(walk(results=[], value=[], told=told), ([("f", [known(3)])], bound(a=RESULT, r=known([]))))

    def test_a_tree_that_is_an_end(self):
        done = ([("f", [others(VALUE, "x")])], bound(a=known([])))
        self.assertEqual(walk(("end", done), None, []), done)
        self.check_new(walk(("end", done), None, []), done)

    def test_arguments_are_not_changed(self):
        told, value, results = tree_of(row([row(), call("f")])), [[]], [[1]]
        before = copy.deepcopy((told, value, results))
        walk(told, value, results)
        self.assertEqual((told, value, results), before)

    def test_results_that_are_not_there(self):
        done = end(bound())
        for place in (("result", 1), item(("result", 1), 0), field(item(("result", 1), 3), "x")):
            for look in (("what", place), ("none", place), ("has", place, 0), ("has", place, "x")):
                told = ("look", look, [(True, done)])
                for results in ([], [[]]):
                    self.check_error(TakeEnded, 1, walk, told, [], results)
        told = ("look", ("what", ("result", 1)), [("none", done)])
        self.assertEqual(walk(told, 0, [0, None]), done[1])

    def test_places_at_which_nothing_is(self):
        done = end(bound())
        bad = ((item(VALUE, 2), [1, 2]), (item(VALUE, 0), []), (item(VALUE, 0), {"x": 1}), (item(VALUE, 0), None),
               (item(VALUE, 0), 7), (field(VALUE, "x"), {"y": 1}), (field(VALUE, "x"), []), (field(VALUE, "x"), 7),
               (item(field(VALUE, "x"), 1), {"x": [1]}), (field(item(VALUE, 0), "x"), [{}]))
        for place, value in bad:
            for look in (("what", place), ("none", place), ("has", place, 0), ("has", place, "x")):
                self.check_error(UnknownPlace, place, walk, ("look", look, [(False, done)]), value, [])
        self.check_error(UnknownPlace, item(RESULT, 1), walk, ("look", ("none", item(RESULT, 1)), []), [1, 2], [[1]])

    def test_has_where_no_row_or_record_is(self):
        done = end(bound())
        for key, values in ((0, (7, None, {}, {"x": 1})), ("x", (7, None, [], [1]))):
            for value in values:
                told = ("look", ("has", VALUE, key), [(True, done), (False, done)])
                self.check_error(UnknownPlace, VALUE, walk, told, value, [])
        self.check_error(UnknownPlace, item(VALUE, 0), walk, ("look", ("has", item(VALUE, 0), "x"), []), [[]], [])

    def test_answers_without_a_way(self):
        for look, value, answer in ((("what", VALUE), 5, "integer"), (("what", VALUE), None, "none"),
                                    (("what", VALUE), {}, "record"), (("what", VALUE), [], "row"),
                                    (("none", VALUE), None, True), (("none", VALUE), [], False),
                                    (("has", VALUE, 1), [1, 2], True), (("has", VALUE, 1), [1], False),
                                    (("has", VALUE, "x"), {"x": None}, True), (("has", VALUE, "x"), {}, False)):
            self.check_error(InvalidAnswer, answer, walk, ("look", look, []), value, [])
            others_there = [other for other in (*KINDS, True, False) if other != answer]
            told = ("look", look, [(other, end(bound())) for other in others_there])
            self.check_error(InvalidAnswer, answer, walk, told, value, [])

    def test_look_by_look(self):
        bad = ("look", ("what", item(VALUE, 9)), [])
        told = ("look", ("what", RESULT), [("none", bad)])
        self.check_error(TakeEnded, 0, walk, told, [], [])
        self.check_error(InvalidAnswer, "row", walk, told, [], [[]])
        self.check_error(UnknownPlace, item(VALUE, 9), walk, told, [], [None])

    def test_ends_may_tell_places_that_are_not_there(self):
        done = end(bound(a=("result", 5), b=item(VALUE, 9)), ("f", [items(VALUE, 3)]))
        self.assertEqual(walk(done, None, []), done[1])


class EndsTest(ShapeCase):
    def test_ends(self):
        self.assertEqual(ends(end(bound())), 1)
        self.assertEqual(ends(told=tree_of(row())), 4)
        self.assertEqual(ends(tree_of(row(ANY, ANY))), 6)
        self.assertEqual(ends(tree_of(row([ANY, number(1)], [ANY, number(1)]))), 6)
        self.assertEqual(ends(("look", ("what", VALUE), [("none", end(bound()))])), 1)


class JudgeTest(ShapeCase):
    def judge(self, part, told, order="soon", lacks="absent"):
        return judge(Pattern(part, order, lacks), told)

    def test_own_trees(self):
        for part in (ANY, name("a"), row(name("a"), rest="r"), record(("x", row([ANY, call("f")]), number(1)))):
            for order in ORDERS:
                for lacks in LACKS:
                    told = tree_of(part, order, lacks)
                    before = copy.deepcopy(told)
                    self.assertIs(judge(told=told, pattern=Pattern(part, order, lacks)), True)
                    self.assertEqual(told, before)

    def test_one_wrong_end(self):
        part = row([name("a"), call("f", number(4))], rest="r")
        for index in range(5):
            for wrong in (([], bound()), ([], failed(VALUE, "cases")), ([("f", [known(4)])], bound(a=VALUE, r=VALUE)),
                          ([("f", [known(4)])], bound(a=RESULT)), ([("f", [known(5)])], bound(a=RESULT, r=known([])))):
                told = tree_of(part)
                ways = told[2][:3] + told[2][3][1][2]
                changed = [(answer, ("end", wrong) if at == index else inner)
                           for at, (answer, inner) in enumerate(ways)]
                told = ("look", told[1], changed[:3] + [("row", ("look", ("has", VALUE, 0), changed[3:]))])
                self.assertIs(self.judge(part, told), False)

    def test_a_way_left_out(self):
        part = row(ANY)
        told = tree_of(part)
        for index in range(4):
            self.assertFalse(self.judge(part, ("look", told[1], told[2][:index] + told[2][index + 1:])))
        for there in (True, False):
            inner = ("look", ("has", VALUE, 0), [way for way in told[2][3][1][2] if way[0] == there])
            self.assertFalse(self.judge(part, ("look", told[1], told[2][:3] + [("row", inner)])))

    def test_ways_that_none_takes(self):
        part = row([ANY, number(1)])
        wrong = end(failed(VALUE, "cases"))
        self.assertTrue(self.judge(part, what(VALUE, no_row(VALUE), row=has(VALUE, 1, has(
            VALUE, 0, end(bound()), wrong), end(bound())))))
        none_first = none(VALUE, what(VALUE, wrong, none=no_row(VALUE)),
                          what(VALUE, no_row(VALUE), none=wrong, row=end(bound())))
        self.assertTrue(self.judge(part, none_first))
        without = ("look", ("none", VALUE), [(True, end(failed(VALUE, "kind"))), (False, (
            "look", ("what", VALUE), [("row", end(bound())), ("record", no_row(VALUE)), ("integer", no_row(VALUE))]))])
        self.assertTrue(self.judge(part, without))

    def test_another_order(self):
        part = record(("x", name("a"), number(1)), ("y", name("b"), number(2)))
        x, y = field(VALUE, "x"), field(VALUE, "y")
        inner = has(VALUE, "y", has(VALUE, "x", end(bound(a=x, b=y)), end(bound(a=known(1), b=y))),
                    has(VALUE, "x", end(bound(a=x, b=known(2))), end(bound(a=known(1), b=known(2)))))
        self.assertTrue(self.judge(part, what(VALUE, no_row(VALUE), record=inner)))
        items_back = has(VALUE, 1, end(bound()), has(VALUE, 0, end(failed(VALUE, ("item", 1))),
                                                     end(failed(VALUE, ("item", 0)))))
        self.assertTrue(self.judge(row(ANY, ANY), what(VALUE, no_row(VALUE), row=items_back)))

    def test_other_looks(self):
        part = row([name("a"), number(1)], rest="r")
        # `what` in the place of `none`, and looks that nothing hangs on.
        first = item(VALUE, 0)
        right = end(bound(a=first, r=items(VALUE, 1)))
        missing = end(bound(a=known(1), r=items(VALUE, 1)))
        told = what(VALUE, no_row(VALUE), row=has(VALUE, 0, what(first, right, none=missing), missing))
        self.assertTrue(self.judge(part, told, lacks="nothing"))
        self.assertFalse(self.judge(part, told))
        further = has(VALUE, 4, what(item(VALUE, 3), right), right)
        told = what(VALUE, no_row(VALUE), row=has(VALUE, 0, none(first, missing, further), missing))
        self.assertTrue(self.judge(part, told, lacks="nothing"))

    def test_results_are_there_ahead_of_their_calls(self):
        part = row([row(), call("f")])
        fine = end(bound())
        made = end(bound(), ("f", []))
        told = what(RESULT, what(VALUE, no_row(VALUE), row=has(
            VALUE, 0, what(item(VALUE, 0), no_row(item(VALUE, 0)), row=fine),
            end(failed(RESULT, "kind"), ("f", [])))),
                    row=what(VALUE, no_row(VALUE), row=has(
                        VALUE, 0, what(item(VALUE, 0), no_row(item(VALUE, 0)), row=fine), made)))
        self.assertTrue(self.judge(part, told))
        # A result that no call gives.
        self.assertTrue(self.judge(ANY, none(("result", 7), fine, fine)))

    def test_looks_that_some_values_have_no_answer_to(self):
        fine = end(bound())
        for told in (has(VALUE, 0, fine, fine), has(VALUE, "x", fine, fine), what(item(VALUE, 0), fine),
                     none(field(VALUE, "x"), fine, fine), what(item(RESULT, 0), fine),
                     what(VALUE, fine, record=has(VALUE, 0, fine, fine)),
                     what(VALUE, fine, row=has(VALUE, "x", fine, fine)),
                     what(VALUE, fine, row=what(item(VALUE, 0), fine)),
                     what(VALUE, fine, row=has(VALUE, 0, what(item(VALUE, 1), fine), fine)),
                     what(VALUE, fine, record=has(VALUE, "x", fine, what(field(VALUE, "x"), fine))),
                     none(VALUE, fine, has(VALUE, 0, fine, fine))):
            self.assertIs(self.judge(ANY, told), False)
        for told in (what(VALUE, fine, row=has(VALUE, 1, what(item(VALUE, 0), fine), fine)),
                     what(VALUE, fine, record=has(VALUE, "x", none(field(VALUE, "x"), fine, fine), fine))):
            self.assertIs(self.judge(ANY, told), True)

    def test_places_in_any_form(self):
        steps = [("take", None, row(ANY, ANY, name("a"), rest="r")), ("take", "a", record(("y", name("b")), rest="s"))]
        third = item(VALUE, 2)
        right = {"a": (third, item(items(VALUE, 2), 0), item(items(items(VALUE, 1), 1), 0), item(items(VALUE, 0), 2),
                       others(third), others(third, "x")),
                 "b": (field(third, "y"), field(others(third, "z"), "y"), field(item(items(VALUE, 1), 1), "y")),
                 "r": (items(VALUE, 3), items(items(VALUE, 1), 2), items(items(VALUE, 3), 0), items(items(VALUE, 0), 3)),
                 "s": (others(third, "y"), others(third, "x", "y"), others(others(third, "x"), "y"),
                       others(others(third, "y")), others(item(items(VALUE, 2), 0), "y"))}
        wrong = {"a": (item(VALUE, 1), item(items(VALUE, 1), 2), items(third, 0), others(third, "y"), NOTHING,
                       others(third, "z"), RESULT),
                 "b": (third, field(third, "x"), item(third, 0), known(1), items(field(third, "y"), 0)),
                 "r": (items(VALUE, 2), items(VALUE, 4), items(item(VALUE, 3), 0), known([]), others(VALUE)),
                 "s": (others(third), others(third, "z", "y"), others(third, "x"), third, items(third, 1))}
        program = Program(steps[:1] + [("take", "a", record(("x", ANY, number(1)), ("y", name("b")), rest="s"))],
                          "soon", "absent")
        for forms, want in ((right, True), (wrong, False)):
            for word in forms:
                for form in forms[word]:
                    told = self.with_end(tree(program), ["row", True, True, True, "record", False, True], word, form)
                    self.assertIs(judge(program, told), want, (word, form))

    def with_end(self, told, way, word, place):
        """The tree with another place for what a name is bound to, at the end of a way."""
        if not way:
            pairs = [(each, place if each == word else ahead) for each, ahead in told[1][1][1]]
            return ("end", (told[1][0], ("bound", pairs)))
        return ("look", told[1], [(answer, self.with_end(inner, way[1:], word, place) if answer == way[0] else inner)
                                  for answer, inner in told[2]])

    def test_known_values_in_any_form(self):
        pattern = Program([("take", None, name("b")), ("cases", "b", [row(row()), row(ANY), ANY])], "soon", "absent")
        told = tree(pattern)
        for way, forms in ((["none"], (NOTHING, VALUE)), (["row", False], (known([]), VALUE, items(VALUE, 0),
                                                                            items(VALUE, 1), items(VALUE, 7)))):
            for form in forms:
                self.assertTrue(judge(pattern, self.with_end(told, way, "b", form)), (way, form))
            for form in (known(0), known([None]), RESULT, known({}), item(VALUE, 0), others(VALUE)):
                self.assertFalse(judge(pattern, self.with_end(told, way, "b", form)), (way, form))

    def test_a_rest_is_there_only_of_a_row(self):
        for form in (items(VALUE, 0), others(VALUE)):
            self.assertFalse(self.judge(name("a"), end(bound(a=form))))
        self.assertTrue(self.judge(row(rest="a"), what(VALUE, no_row(VALUE), row=end(bound(a=items(VALUE, 0))))))
        self.assertTrue(self.judge(record(rest="a"), what(VALUE, no_row(VALUE), record=end(bound(a=others(VALUE))))))

    def test_calls(self):
        steps = [("take", None, name("a")), ("set", "b", call("f", read("a"), number(2)))]
        program = Program(steps, "soon", "absent")
        right = bound(a=VALUE, b=RESULT)
        self.assertTrue(judge(program, end(right, ("f", [VALUE, known(2)]))))
        for calls in ([], [("g", [VALUE, known(2)])], [("f", [VALUE])], [("f", [known(2), VALUE])],
                      [("f", [VALUE, known(3)])], [("f", [VALUE, known(2), known(2)])],
                      [("f", [VALUE, known(2)]), ("f", [VALUE, known(2)])]):
            self.assertFalse(judge(program, end(right, *calls)))
        two = Program(steps + [("set", "c", call("g"))], "soon", "absent")
        done = bound(a=VALUE, b=RESULT, c=("result", 1))
        self.assertTrue(judge(two, end(done, ("f", [VALUE, known(2)]), ("g", []))))
        self.assertFalse(judge(two, end(done, ("g", []), ("f", [VALUE, known(2)]))))

    def test_failed_places(self):
        steps = [("take", None, record(("x", ANY, number(1)), rest="r")), ("take", "r", row())]
        program = Program(steps, "soon", "absent")
        right = what(VALUE, no_row(VALUE), record=end(failed(others(VALUE, "x"), "kind")))
        self.assertTrue(judge(program, right))
        for place, why in ((VALUE, "kind"), (others(VALUE), "kind"), (others(VALUE, "x", "y"), "kind"),
                           (others(VALUE, "x"), "cases"), (others(VALUE, "x"), ("field", "x"))):
            self.assertFalse(judge(program, what(VALUE, no_row(VALUE), record=end(failed(place, why)))))

    def test_one_end_for_several(self):
        part = row([ANY, number(0)], rest="r")
        self.assertTrue(self.judge(part, what(VALUE, no_row(VALUE), row=end(bound(r=items(VALUE, 1))))))
        self.assertFalse(self.judge(part, what(VALUE, no_row(VALUE), row=end(bound(r=items(VALUE, 2))))))
        part = record(("x", ANY, number(0)), rest="r")
        self.assertTrue(self.judge(part, what(VALUE, no_row(VALUE), record=end(bound(r=others(VALUE, "x"))))))
        self.assertFalse(self.judge(part, what(VALUE, no_row(VALUE), record=end(bound(r=VALUE)))))

    def test_trees_of_programs_that_do_the_same(self):
        one = Program([("set", "a", number(1)), ("set", "b", number(2)), ("set", "a", number(3))], "soon", "absent")
        self.assertTrue(judge(one, end(bound(a=known(3), b=known(2)))))
        self.assertFalse(judge(one, end(bound(a=known(1), b=known(2)))))
        self.assertTrue(judge(one, tree(one.exchanged(0))))
        self.assertTrue(judge(Pattern(row(ANY), "late", "nothing"), tree_of(row(ANY))))

    def test_take_does_as_the_end_that_is_judged(self):
        pattern = Pattern(row([name("a"), number(1)]), "soon", "absent")
        told = what(VALUE, no_row(VALUE), row=has(VALUE, 0, end(bound(a=item(VALUE, 0))), end(bound(a=known(1)))))
        self.assertTrue(judge(pattern, told))
        self.assertEqual([walk(told, value, [])[1] for value in ([], [7], 7)],
                         [bound(a=known(1)), bound(a=item(VALUE, 0)), failed(VALUE, "kind")])
        self.assertEqual([take(pattern, value, [])[1] for value in ([], [7], 7)],
                         [bound(a=1), bound(a=7), failed(VALUE, "kind")])


if __name__ == "__main__":
    unittest.main()

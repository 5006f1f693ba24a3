"""Promises [2], [4], [6], [9], [11] and the interface of `take`: what is bound, called and failed."""

import unittest

from partedvalues.errors import TakeEnded
from partedvalues.patterns import Pattern, Program
from partedvalues.takes import take
from tests.shapes import (ANY, LACKS, ORDERS, VALUE, ShapeCase, bound, call, end_of, failed, field, great_part, item,
                          lists_within, name, number, read, record, row, take_part, take_steps)

VALUES = (0, -999, 999, None, [], {}, [None], [1, [2, {}]], {"a": None}, {"x": [1], "y": {"x": 2}})


class PartsTest(ShapeCase):
    def test_name_binds_any_value(self):
        for value in VALUES:
            self.assertEqual(take_part(name("a"), value), ([], ("bound", [("a", value)])))

    def test_any_binds_nothing(self):
        for value in VALUES:
            self.assertEqual(take_part(ANY, value), ([], ("bound", [])))

    def test_row_part_takes_rows_alone(self):
        for value in VALUES:
            end = bound() if isinstance(value, list) else failed(VALUE, "kind")
            self.assertEqual(end_of(row(), value), end)

    def test_record_part_takes_records_alone(self):
        for value in VALUES:
            end = bound() if isinstance(value, dict) else failed(VALUE, "kind")
            self.assertEqual(end_of(record(), value), end)

    def test_items_by_index(self):
        part = row(name("a"), ANY, name("b"))
        self.assertEqual(end_of(part, [1, 2, 3]), bound(a=1, b=3))
        self.assertEqual(end_of(part, [1, 2, 3, 4]), bound(a=1, b=3))
        self.assertEqual(end_of(part, [1, 2]), failed(VALUE, ("item", 2)))
        self.assertEqual(end_of(part, [1]), failed(VALUE, ("item", 1)))
        self.assertEqual(end_of(part, []), failed(VALUE, ("item", 0)))

    def test_fields_by_name(self):
        part = record(("x", name("a")), ("y", name("b")))
        self.assertEqual(end_of(part, {"y": 2, "x": 1}), bound(a=1, b=2))
        self.assertEqual(end_of(part, {"y": 2, "x": 1, "z": 3}), bound(a=1, b=2))
        self.assertEqual(end_of(part, {"y": 2}), failed(VALUE, ("field", "x")))
        self.assertEqual(end_of(part, {"x": 2}), failed(VALUE, ("field", "y")))
        self.assertEqual(end_of(part, {}), failed(VALUE, ("field", "x")))

    def test_rest_of_row(self):
        for value in ([1], [1, 2], [1, 2, None, [3]]):
            self.assertEqual(end_of(row(ANY, rest="r"), value), bound(r=value[1:]))
            self.assertEqual(end_of(row(rest="r"), value), bound(r=value))
        self.assertEqual(end_of(row(rest="r"), []), bound(r=[]))
        self.assertEqual(end_of(row([ANY, number(1)], [ANY, number(2)], rest="r"), []), bound(r=[]))

    def test_rest_of_record(self):
        part = record(("x", ANY, number(1)), ("y", ANY, number(1)), rest="r")
        self.assertEqual(end_of(part, {"x": 1, "z": 2, "y": 3, "u": None}), bound(r={"z": 2, "u": None}))
        self.assertEqual(end_of(part, {"x": 1, "z": 2}), bound(r={"z": 2}))
        self.assertEqual(end_of(part, {}), bound(r={}))
        self.assertEqual(end_of(record(rest="r"), {"x": 1}), bound(r={"x": 1}))

    def test_a_name_is_lost_when_bound_again(self):
        self.assertEqual(end_of(row(name("a"), name("a")), [1, 2]), bound(a=2))
        self.assertEqual(end_of(row(name("a"), rest="a"), [1, 2]), bound(a=[2]))
        self.assertEqual(end_of(record(("x", name("a")), rest="a"), {"x": 1}), bound(a={}))
        self.assertEqual(end_of(row(row(rest="a"), name("a")), [[1], 2]), bound(a=2))

    def test_pairs_ascend_by_names(self):
        part = row(name("ba"), name("b"), name("a"), name("ab"), rest="aa")
        self.assertEqual(end_of(part, [1, 2, 3, 4]), ("bound", [("a", 3), ("aa", []), ("ab", 4), ("b", 2), ("ba", 1)]))

    def test_nested_parts_fail_at_their_place(self):
        part = row(ANY, record(("x", row(name("a")))))
        self.assertEqual(end_of(part, [0, {"x": [5]}]), bound(a=5))
        self.assertEqual(end_of(part, [0, 7]), failed(item(VALUE, 1), "kind"))
        self.assertEqual(end_of(part, [0, {}]), failed(item(VALUE, 1), ("field", "x")))
        self.assertEqual(end_of(part, [0, {"x": None}]), failed(field(item(VALUE, 1), "x"), "kind"))
        self.assertEqual(end_of(part, [0, {"x": []}]), failed(field(item(VALUE, 1), "x"), ("item", 0)))

    def test_none_does_not_lack_without_a_default(self):
        for order in ORDERS:
            for lacks in LACKS:
                self.assertEqual(end_of(row(name("a")), [None], order=order, lacks=lacks), bound(a=None))
                self.assertEqual(end_of(record(("x", name("a"))), {"x": None}, order=order, lacks=lacks), bound(a=None))

    def test_none_lacks_by_the_word_nothing(self):
        for part, value in ((row([name("a"), number(4)]), [None]), (record(("x", name("a"), number(4))), {"x": None})):
            for order in ORDERS:
                self.assertEqual(end_of(part, value, order=order, lacks="absent"), bound(a=None))
                self.assertEqual(end_of(part, value, order=order, lacks="nothing"), bound(a=4))

    def test_what_lacks_by_none_stands_in_no_rest(self):
        part = record(("x", name("a"), number(4)), rest="r")
        self.assertEqual(end_of(part, {"x": None, "y": None}, lacks="nothing"), bound(a=4, r={"y": None}))
        self.assertEqual(end_of(row([ANY, number(4)], rest="r"), [None, None], lacks="nothing"), bound(r=[None]))

    def test_what_is_behind_the_end_lacks_by_both_words(self):
        for lacks in LACKS:
            self.assertEqual(end_of(row([name("a"), number(4)]), [], lacks=lacks), bound(a=4))
            self.assertEqual(end_of(record(("x", name("a"), number(4))), {}, lacks=lacks), bound(a=4))
            self.assertEqual(end_of(row(name("a")), [], lacks=lacks), failed(VALUE, ("item", 0)))

    def test_other_empty_values_do_not_lack(self):
        for value in (0, [], {}):
            self.assertEqual(end_of(row([name("a"), number(4)]), [value], lacks="nothing"), bound(a=value))


class DefaultsTest(ShapeCase):
    def test_read(self):
        part = row(name("a"), [name("b"), read("a")])
        for order in ORDERS:
            self.assertEqual(end_of(part, [[1, {}]], order=order), bound(a=[1, {}], b=[1, {}]))

    def test_read_what_was_bound_last(self):
        part = row(name("a"), name("a"), [name("b"), read("a")])
        self.assertEqual(end_of(part, [1, 2]), bound(a=2, b=2))

    def test_read_of_what_is_not_bound(self):
        part = row([name("a"), read("a")])
        for order in ORDERS:
            self.assertEqual(end_of(part, [], order=order), failed(item(VALUE, 0), ("unbound", "a")))
        part = record(("x", row(ANY, [ANY, read("b")])))
        self.assertEqual(end_of(part, {"x": [1]}), failed(item(field(VALUE, "x"), 1), ("unbound", "b")))

    def test_default_is_not_worked_out_if_nothing_lacks(self):
        part = row([name("a"), call("f", read("none"))], [name("b"), call("g")])
        for order in ORDERS:
            self.assertEqual(take_part(part, [1, None], order=order), ([], bound(a=1, b=None)))

    def test_number(self):
        for worth in (-999, -1, 0, 999):
            self.assertEqual(end_of(row([name("a"), number(worth)]), []), bound(a=worth))

    def test_call_gives_any_value(self):
        for value in VALUES:
            self.assertEqual(take_part(row([name("a"), call("f")]), [], [value]), ([("f", [])], bound(a=value)))

    def test_default_is_taken_by_its_part(self):
        part = row([row(name("a"), rest="r"), call("f")])
        self.assertEqual(end_of(part, [], [[1, 2]]), bound(a=1, r=[2]))
        self.assertEqual(end_of(part, [], [[]]), failed(("result", 0), ("item", 0)))
        self.assertEqual(end_of(part, [], [{}]), failed(("result", 0), "kind"))
        self.assertEqual(end_of(row([row(), number(-4)]), []), failed(("known", -4), "kind"))

    def test_calls_within_calls(self):
        part = row(name("a"), [name("b"), call("f", call("g", read("a")), number(7), call("h", call("g", number(1))))])
        calls = [("g", [3]), ("g", [1]), ("h", [[20]]), ("f", [10, 7, {"x": 30}])]
        self.assertEqual(take_part(part, [3], [10, [20], {"x": 30}, 40]), (calls, bound(a=3, b=40)))

    def test_terms_one_by_one_until_one_fails(self):
        part = row([ANY, call("f", call("g"), read("a"), call("h"))])
        end = failed(item(VALUE, 0), ("unbound", "a"))
        self.assertEqual(take_part(part, [], [1]), ([("g", [])], end))
        part = row([ANY, call("f", call("g", call("h"), read("b")), read("a"))])
        self.assertEqual(take_part(part, [], [1]), ([("h", [])], failed(item(VALUE, 0), ("unbound", "b"))))

    def test_calls_stay_when_a_part_fails(self):
        part = row([name("a"), call("f")], ANY)
        self.assertEqual(take_part(part, [], [1]), ([("f", [])], failed(VALUE, ("item", 1))))

    def test_same_calls_may_give_unlike_results(self):
        part = row([name("a"), call("f")], [name("b"), call("f")])
        self.assertEqual(take_part(part, [], [1, 2]), ([("f", []), ("f", [])], bound(a=1, b=2)))

    def test_calls_get_rests_and_records(self):
        part = row(record(("x", ANY), rest="o"), [ANY, call("f", read("o"))], rest="r")
        self.assertEqual(take_part(part, [{"x": 1, "y": [2]}], [0]), ([("f", [{"y": [2]}])], bound(o={"y": [2]}, r=[])))


class OrdersTest(ShapeCase):
    def test_soon_works_out_where_the_item_stands(self):
        part = row([name("a"), call("f")], [name("b"), call("g", read("a"))], name("c"))
        self.assertEqual(take_part(part, [], [1, 2]), ([("f", []), ("g", [1])], failed(VALUE, ("item", 2))))

    def test_late_works_out_behind_all_items(self):
        part = row([name("a"), call("f")], [name("b"), call("g", read("a"))], name("c"))
        self.assertEqual(take_part(part, [], [], "late"), ([], failed(VALUE, ("item", 2))))

    def test_late_reads_what_stands_behind(self):
        part = record(("x", name("a"), read("b")), ("y", name("b")))
        self.assertEqual(end_of(part, {"y": 3}), failed(field(VALUE, "x"), ("unbound", "b")))
        self.assertEqual(end_of(part, {"y": 3}, order="late"), bound(a=3, b=3))

    def test_late_reads_the_rest(self):
        part = record(("x", name("a"), read("r")), rest="r")
        self.assertEqual(end_of(part, {"y": 3}), failed(field(VALUE, "x"), ("unbound", "r")))
        self.assertEqual(end_of(part, {"y": 3}, order="late"), bound(a={"y": 3}, r={"y": 3}))
        part = row([name("a"), read("r")], rest="r")
        self.assertEqual(end_of(part, []), failed(item(VALUE, 0), ("unbound", "r")))
        self.assertEqual(end_of(part, [], order="late"), bound(a=[], r=[]))

    def test_late_binds_behind_the_rest(self):
        part = row([name("a"), number(1)], rest="a")
        self.assertEqual(end_of(part, []), bound(a=[]))
        self.assertEqual(end_of(part, [], order="late"), bound(a=1))

    def test_late_takes_each_default_before_the_next(self):
        part = record(("x", name("a"), call("f")), ("y", name("b"), call("g", read("a"))))
        for order in ORDERS:
            self.assertEqual(take_part(part, {}, [1, 2], order), ([("f", []), ("g", [1])], bound(a=1, b=2)))
        part = record(("x", row(), number(1)), ("y", ANY, call("g")))
        for order in ORDERS:
            self.assertEqual(take_part(part, {}, [], order), ([], failed(("known", 1), "kind")))

    def test_late_is_late_in_its_own_part_alone(self):
        part = row(row([name("a"), call("f")]), [name("b"), call("g")], record(("x", ANY, call("h"))))
        calls = [("f", []), ("h", []), ("g", [])]
        self.assertEqual(take_part(part, [[], 5, {}], [1, 3], "late"), ([("f", []), ("h", [])], bound(a=1, b=5)))
        self.assertEqual(take_part(part, [[], None, {}], [1, 3, 2], "late", "nothing"), (calls, bound(a=1, b=2)))
        calls = [("f", []), ("g", []), ("h", [])]
        self.assertEqual(take_part(part, [[], None, {}], [1, 2, 3], "soon", "nothing"), (calls, bound(a=1, b=2)))

    def test_late_within_what_a_default_gave(self):
        part = row([row([name("a"), call("g")], name("b")), call("f")], [name("c"), call("h", read("b"))])
        results = [[None, 8], 9, 10]
        calls = [("f", []), ("g", []), ("h", [8])]
        for order in ORDERS:
            self.assertEqual(take_part(part, [], results, order, "nothing"), (calls, bound(a=9, b=8, c=10)))

    def test_soon_in_the_sequence_of_the_pattern_not_of_the_value(self):
        part = record(("y", name("a"), call("f")), ("x", name("b"), call("g")))
        self.assertEqual(take_part(part, {}, [1, 2])[0], [("f", []), ("g", [])])

    def test_late_default_ahead_of_parts_behind(self):
        # The item that is there is taken, and fails, ahead of the default that is wanted.
        part = row([ANY, call("f")], row())
        self.assertEqual(take_part(part, [None, 5], [], "late", "nothing"), ([], failed(item(VALUE, 1), "kind")))
        self.assertEqual(take_part(part, [None, 5], [0], "soon", "nothing"),
                         ([("f", [])], failed(item(VALUE, 1), "kind")))


class FailedPlacesTest(ShapeCase):
    def test_within_rests_of_rows(self):
        steps = [("take", None, row(ANY, rest="r")), ("take", "r", row(ANY, record(), rest="s"))]
        rest = ("items", VALUE, 1)
        self.assertEqual(take_steps(steps, [1])[1], failed(rest, ("item", 0)))
        self.assertEqual(take_steps(steps, [1, 2])[1], failed(rest, ("item", 1)))
        self.assertEqual(take_steps(steps, [1, 2, 3])[1], failed(item(VALUE, 2), "kind"))
        behind = [("take", "s", row(ANY, rest="t")), ("take", "t", record())]
        self.assertEqual(take_steps(steps + behind, [1, 2, {}])[1], failed(("items", VALUE, 3), ("item", 0)))
        self.assertEqual(take_steps(steps + behind, [1, 2, {}, 4])[1], failed(("items", VALUE, 4), "kind"))

    def test_a_rest_from_index_0_is_the_row_itself(self):
        steps = [("take", None, row(rest="r")), ("take", "r", record())]
        self.assertEqual(take_steps(steps, [1])[1], failed(VALUE, "kind"))
        steps = [("take", None, row(ANY, rest="r")), ("take", "r", row(rest="s")), ("take", "s", record())]
        self.assertEqual(take_steps(steps, [1])[1], failed(("items", VALUE, 1), "kind"))

    def test_others_tell_all_names_ascending(self):
        steps = [("take", None, record(("y", ANY, number(1)), ("x", ANY, number(1)), rest="r")), ("take", "r", row())]
        for value in ({}, {"x": 1}, {"x": 1, "y": 2}, {"z": 3}):
            self.assertEqual(take_steps(steps, value)[1], failed(("others", VALUE, ["x", "y"]), "kind"))

    def test_others_of_others(self):
        steps = [("take", None, record(("y", ANY), rest="r")), ("take", "r", record(("x", name("a")), rest="s"))]
        value = {"y": 1, "z": 2, "x": 3}
        self.assertEqual(take_steps(steps, value)[1], bound(a=3, r={"z": 2, "x": 3}, s={"z": 2}))
        end = failed(("others", VALUE, ["x", "y"]), ("field", "z"))
        self.assertEqual(take_steps(steps + [("take", "s", record(("z", ANY)))], {"y": 1, "x": 3})[1], end)
        self.assertEqual(take_steps(steps + [("take", "s", record(rest="t")), ("take", "t", row())], value)[1],
                         failed(("others", VALUE, ["x", "y"]), "kind"))

    def test_others_of_others_with_the_same_fields(self):
        steps = [("take", None, record(("y", ANY), rest="r")),
                 ("take", "r", record(("x", ANY, number(1)), ("z", ANY, number(1)), ("y", ANY, number(2)), rest="s")),
                 ("take", "s", row())]
        self.assertEqual(take_steps(steps, {"y": 1})[1], failed(("others", VALUE, ["x", "y", "z"]), "kind"))

    def test_others_without_no_field_are_the_record_itself(self):
        steps = [("take", None, record(rest="r")), ("take", "r", row())]
        self.assertEqual(take_steps(steps, {"x": 1})[1], failed(VALUE, "kind"))

    def test_a_field_of_others_is_told_by_the_record(self):
        steps = [("take", None, record(("x", ANY), rest="r")), ("take", "r", record(("y", row(), number(1))))]
        self.assertEqual(take_steps(steps, {"x": 1, "y": 2})[1], failed(field(VALUE, "y"), "kind"))

    def test_a_field_left_out_lacks(self):
        steps = [("take", None, record(("x", ANY), rest="r")), ("take", "r", record(("x", name("a"))))]
        self.assertEqual(take_steps(steps, {"x": 1})[1], failed(("others", VALUE, ["x"]), ("field", "x")))
        steps[1] = ("take", "r", record(("x", name("a"), number(5))))
        self.assertEqual(take_steps(steps, {"x": 1})[1], bound(a=5, r={}))
        steps[1] = ("take", "r", record(("x", name("a"), read("b"))))
        self.assertEqual(take_steps(steps, {"x": 1})[1], failed(field(VALUE, "x"), ("unbound", "b")))

    def test_unbound_in_a_rest(self):
        steps = [("take", None, row(ANY, ANY, rest="r")), ("take", "r", row(ANY, [ANY, read("q")]))]
        self.assertEqual(take_steps(steps, [1, 2, 3])[1], failed(item(VALUE, 3), ("unbound", "q")))

    def test_within_results(self):
        part = row([row(ANY, record(("x", row()))), call("f", call("g"))])
        self.assertEqual(end_of(part, [], [0, [1, {"x": 2}]]), failed(field(item(("result", 1), 1), "x"), "kind"))
        self.assertEqual(end_of(part, [], [0, [1]]), failed(("result", 1), ("item", 1)))

    def test_what_answers_tell_is_not_told(self):
        # The value is known to be None, the rest to be empty, and still they are told by themselves.
        steps = [("cases", None, [row(), ANY]), ("take", None, record())]
        self.assertEqual(take_steps(steps, None)[1], failed(VALUE, "kind"))
        steps = [("take", None, row([ANY, number(1)], rest="r")), ("take", "r", record())]
        self.assertEqual(take_steps(steps, [])[1], failed(("items", VALUE, 1), "kind"))

    def test_lists_of_places_are_new(self):
        steps = [("take", None, record(("x", ANY), rest="r")), ("take", "r", row())]
        program = Program(steps, "soon", "absent")
        first, second = take(program, {"x": 1}, []), take(program, {"x": 1}, [])
        self.check_new(first, second, steps)
        first[1][1][2].append("more")
        self.assertEqual(take(program, {"x": 1}, []), second)


class StepsTest(ShapeCase):
    def test_no_steps(self):
        self.assertEqual(take_steps([], [1, 2]), ([], bound()))

    def test_take_the_value_or_a_name(self):
        steps = [("take", None, row(name("a"), name("b"))), ("take", "b", row(name("c"))), ("take", None, name("d"))]
        self.assertEqual(take_steps(steps, [1, [2]]), ([], bound(a=1, b=[2], c=2, d=[1, [2]])))

    def test_a_pattern_is_one_take(self):
        part = row([name("a"), call("f")], [name("b"), read("c")], rest="c")
        for value in VALUES + ([None, None], [1, 2, 3]):
            for order in ORDERS:
                for lacks in LACKS:
                    self.assertEqual(take_part(part, value, [7], order, lacks),
                                     take_steps([("take", None, part)], value, [7], order, lacks))

    def test_set(self):
        steps = [("set", "a", number(3)), ("set", "b", call("f", read("a"), call("g"))), ("set", "a", read("b"))]
        self.assertEqual(take_steps(steps, 0, [4, [5]]), ([("g", []), ("f", [3, 4])], bound(a=[5], b=[5])))

    def test_unbound_names_of_steps(self):
        end = failed(("step",), ("unbound", "a"))
        for step in (("take", "a", ANY), ("cases", "a", [ANY]), ("cases", "a", []), ("set", "b", read("a")),
                     ("set", "a", read("a"))):
            self.assertEqual(take_steps([step], 0), ([], end))
        step = ("set", "b", call("f", call("g", number(1)), read("a")))
        self.assertEqual(take_steps([step], 0, [9]), ([("g", [1])], end))

    def test_unbound_names_of_defaults_in_steps(self):
        steps = [("take", None, row([ANY, read("a")])), ("set", "a", number(1))]
        self.assertEqual(take_steps(steps, [])[1], failed(item(VALUE, 0), ("unbound", "a")))
        self.assertEqual(take_steps(steps[::-1], [])[1], bound(a=1))

    def test_the_first_step_that_fails_ends_it(self):
        steps = [("set", "a", call("f")), ("take", None, row()), ("set", "b", call("g"))]
        self.assertEqual(take_steps(steps, 5, [1]), ([("f", [])], failed(VALUE, "kind")))
        self.assertEqual(take_steps(steps, [], [1, 2]), ([("f", []), ("g", [])], bound(a=1, b=2)))

    def test_take_of_a_known_number(self):
        steps = [("set", "a", number(-7)), ("take", "a", record())]
        self.assertEqual(take_steps(steps, 0)[1], failed(("known", -7), "kind"))
        steps = [("set", "a", number(-7)), ("cases", "a", [row(), record()])]
        self.assertEqual(take_steps(steps, 0)[1], failed(("known", -7), "cases"))

    def test_late_puts_off_within_a_step_alone(self):
        steps = [("take", None, row([name("a"), call("f")])), ("set", "b", call("g")), ("take", "a", name("c"))]
        self.assertEqual(take_steps(steps, [], [1, 2], "late"), ([("f", []), ("g", [])], bound(a=1, b=2, c=1)))

    def test_words_of_a_program_hold_in_all_steps(self):
        steps = [("set", "a", call("f")), ("cases", "a", [row([name("b"), read("c")], name("c"))])]
        self.assertEqual(take_steps(steps, 0, [[None, 5]], "late", "nothing")[1], bound(a=[None, 5], b=5, c=5))
        self.assertEqual(take_steps(steps, 0, [[None, 5]], "late", "absent")[1], bound(a=[None, 5], b=None, c=5))
        self.assertEqual(take_steps(steps, 0, [[None, 5]], "soon", "nothing")[1], failed(("result", 0), "cases"))


class CasesTest(ShapeCase):
    def test_the_first_case_that_does_not_fail(self):
        steps = [("cases", None, [row(name("a")), record(("x", name("b"))), name("c"), name("d")])]
        self.assertEqual(take_steps(steps, [1])[1], bound(a=1))
        self.assertEqual(take_steps(steps, {"x": 1})[1], bound(b=1))
        for value in ([], {}, 0, None):
            self.assertEqual(take_steps(steps, value)[1], bound(c=value))

    def test_all_fail(self):
        steps = [("cases", None, [row(name("a")), record()]), ("set", "b", number(1))]
        for value in ([], 0, None):
            self.assertEqual(take_steps(steps, value), ([], failed(VALUE, "cases")))

    def test_no_cases(self):
        self.assertEqual(take_steps([("cases", None, [])], 0), ([], failed(VALUE, "cases")))
        steps = [("take", None, row(name("a"))), ("cases", "a", [])]
        self.assertEqual(take_steps(steps, [1])[1], failed(item(VALUE, 0), "cases"))

    def test_what_a_failed_case_bound_is_lost(self):
        steps = [("set", "a", number(1)), ("set", "b", number(2)),
                 ("cases", None, [row(name("a"), name("c"), record()), row(rest="d")])]
        self.assertEqual(take_steps(steps, [7, 8, 9])[1], bound(a=1, b=2, d=[7, 8, 9]))
        steps = [("cases", None, [row(name("a"), row()), ANY]), ("take", "a", ANY)]
        self.assertEqual(take_steps(steps, [7, 8])[1], failed(("step",), ("unbound", "a")))

    def test_lost_for_each_case_and_each_step(self):
        steps = [("cases", None, [row(name("a"), row()), row(name("b"), record()), row(name("c"), ANY)]),
                 ("cases", "c", [row(), row(name("c")), name("d")])]
        self.assertEqual(take_steps(steps, [7, 8])[1], bound(c=7, d=7))

    def test_cases_read_what_was_bound_ahead_not_by_failed_cases(self):
        steps = [("cases", None, [row(name("a"), row()), row(ANY, ANY, [name("b"), read("a")]), ANY])]
        self.assertEqual(take_steps(steps, [7, 8])[1], bound())
        self.assertEqual(take_steps([("set", "a", number(5))] + steps, [7, 8])[1], bound(a=5, b=5))

    def test_calls_of_failed_cases_stay(self):
        steps = [("cases", None, [row([row(), call("f")]), row([name("a"), call("f", number(2))])]),
                 ("set", "b", call("g", read("a")))]
        calls = [("f", []), ("f", [2]), ("g", [6])]
        self.assertEqual(take_steps(steps, [], [5, 6, 7]), (calls, bound(a=6, b=7)))
        steps = [("cases", None, [row([row(), call("f")])])]
        self.assertEqual(take_steps(steps, [], [5]), ([("f", [])], failed(VALUE, "cases")))

    def test_a_name_that_is_not_bound_fails_a_case_alone(self):
        steps = [("cases", None, [row([ANY, read("q")]), name("a")])]
        self.assertEqual(take_steps(steps, [])[1], bound(a=[]))

    def test_place_of_cases_by_itself(self):
        steps = [("take", None, record(("x", ANY, number(1)), rest="r")), ("cases", "r", [row(), record(("x", ANY))])]
        self.assertEqual(take_steps(steps, {})[1], failed(("others", VALUE, ["x"]), "cases"))
        steps = [("take", None, row([ANY, number(1)], rest="r")), ("cases", "r", [record(), row(ANY)])]
        self.assertEqual(take_steps(steps, [])[1], failed(("items", VALUE, 1), "cases"))

    def test_rest_in_a_case(self):
        steps = [("cases", None, [row(ANY, rest="r"), record(("x", ANY), rest="r")])]
        self.assertEqual(take_steps(steps, [1, 2])[1], bound(r=[2]))
        self.assertEqual(take_steps(steps, {"x": 1, "y": 2})[1], bound(r={"y": 2}))


class ResultsTest(ShapeCase):
    def test_missing_results(self):
        part = row([name("a"), call("f", call("g"), call("h"))])
        for many in range(3):
            self.check_error(TakeEnded, many, take_part, part, [], [1] * many)
        self.assertEqual(take_part(part, [], [1, 2, 3])[0], [("g", []), ("h", []), ("f", [1, 2])])

    def test_missing_even_if_nothing_binds_it(self):
        self.check_error(TakeEnded, 0, take_part, row([ANY, call("f")]), [])
        self.check_error(TakeEnded, 1, take_steps, [("set", "a", call("f")), ("set", "a", call("f"))], 0, [1])

    def test_a_failure_ahead_of_the_call_is_none_of_it(self):
        part = row([ANY, call("f", read("a"))])
        self.assertEqual(take_part(part, []), ([], failed(item(VALUE, 0), ("unbound", "a"))))
        self.check_error(TakeEnded, 0, take_part, row([ANY, call("f", call("g"), read("a"))]), [])

    def test_missing_ahead_of_a_failure_behind(self):
        part = row([ANY, call("f")], ANY)
        self.check_error(TakeEnded, 0, take_part, part, [])
        self.assertEqual(take_part(part, [], [], "late"), ([], failed(VALUE, ("item", 1))))

    def test_missing_in_a_case(self):
        self.check_error(TakeEnded, 0, take_steps, [("cases", None, [row([ANY, call("f")]), ANY])], [])

    def test_results_left_over(self):
        part = row([name("a"), call("f")])
        self.assertEqual(take_part(part, [], [1, 2, 3]), ([("f", [])], bound(a=1)))
        self.assertEqual(take_part(part, [5], [1, 2, 3]), ([], bound(a=5)))

    def test_nothing_changes_by_an_error(self):
        pattern = Pattern(row([name("a"), call("f")], [name("b"), call("g")]), "soon", "absent")
        value, results = [], [[1]]
        for _ in range(2):
            self.check_error(TakeEnded, 1, take, pattern, value, results)
        self.assertEqual((value, results, take(pattern, [], [1, 2])[1]), ([], [[1]], bound(a=1, b=2)))


class NewListsTest(ShapeCase):
    PART = row(name("a"), row(ANY, rest="b"), record(("x", ANY), rest="c"),
               [name("d"), call("f", read("a"), read("a"), read("b"), read("c"))], [name("e"), read("d")], rest="r")

    def test_lists_are_new_and_stand_in_one_place(self):
        inner = [1, {"x": []}]
        value = [inner, [0, inner, inner], {"x": 1, "y": inner, "z": {"z": inner}}]
        results = [[inner, inner]]
        done = take_part(self.PART, value, results)
        self.check_new(done, value, results)
        self.check_new(take_part(self.PART, value, results), done)
        self.assertEqual(done[0], [("f", [inner, inner, [inner, inner], {"y": inner, "z": {"z": inner}}])])
        self.assertEqual(done[1], bound(a=inner, b=[inner, inner], c={"y": inner, "z": {"z": inner}},
                                        d=[inner, inner], e=[inner, inner], r=[]))

    def test_changing_what_was_returned_changes_nothing(self):
        value, results = [[1, {"x": []}], [2], {"x": 1, "y": []}, None], [[3]]
        pattern = Pattern(self.PART, "soon", "nothing")
        done, again = take(pattern, value, results), take(pattern, value, results)
        for each in lists_within(done):
            each.clear()
        self.assertEqual(take(pattern, value, results), again)
        self.assertEqual((value, results), ([[1, {"x": []}], [2], {"x": 1, "y": []}, None], [[3]]))

    def test_arguments_are_not_modified(self):
        value, results = [[1], [2, [3]], {"x": None, "y": {}}], [[[4]], 5]
        take_part(self.PART, value, results, "late", "nothing")
        self.assertEqual((value, results), ([[1], [2, [3]], {"x": None, "y": {}}], [[[4]], 5]))

    def test_arguments_by_name(self):
        pattern = Pattern(row([name("a"), call("f")]), "soon", "absent")
        self.assertEqual(take(results=[1], value=[], pattern=pattern), take(pattern, [], [1]))

    def test_asked_again_and_again(self):
        pattern = Pattern(row([name("a"), call("f")], rest="b"), "late", "nothing")
        for _ in range(3):
            self.assertEqual(take(pattern, [None, 2], [1]), ([("f", [])], bound(a=1, b=[2])))
            self.assertEqual(take(pattern, 5, []), ([], failed(VALUE, "kind")))


class GreatestTest(ShapeCase):
    def test_greatest_pattern(self):
        deep = [[[[[7]]]]]
        wide = [{letter: index for index, letter in enumerate("abcdefghijkl")}, deep]
        wide += [[index, 0] for index in range(16)] + [3, None, 5, 6]
        for order in ORDERS:
            end = end_of(great_part(), wide, [], order)
            self.assertEqual((end[0], len(end[1])), ("bound", 30))
            self.assertEqual(dict(end[1])["more"], [5, 6])
            self.assertEqual((dict(end[1])["deep"], dict(end[1])["po"]), (7, 14))

    def test_greatest_pattern_with_defaults(self):
        results = list(range(12))
        for many in range(16):
            results += [0, 0, 0, [many, 1]]
        results += [8] * 4
        calls, end = take_part(great_part(), [{}, [[[[[7]]]]]], results)
        self.assertEqual((len(calls), end[0]), (80, "bound"))
        self.assertEqual(calls[12:16], [("m", [-999, 0]), ("m", [-999, 0]), ("m", [-999, 0]), ("m", [-999, 0])])
        self.assertEqual(dict(end[1])["po"], 14)

    def test_greatest_program(self):
        steps = [("set", "a", number(0))] + [("set", "a", call("f", read("a")))] * 22
        steps.append(("cases", "a", [row()] * 23 + [name("b")]))
        calls, end = take_steps(steps, 0, list(range(1, 23)))
        self.assertEqual(calls, [("f", [index]) for index in range(22)])
        self.assertEqual(end, bound(a=22, b=22))

    def test_deep_values(self):
        deep = 5
        for depth in range(10):
            deep = [deep, {"x": deep}] if depth < 4 else [deep]
        self.assertEqual(end_of(name("a"), deep), bound(a=deep))
        steps = [("take", None, name("a"))] + [("take", "a", row(name("a")))] * 10
        self.assertEqual(take_steps(steps, deep)[1], bound(a=5))
        steps.append(("take", "a", row()))
        place = VALUE
        for _ in range(10):
            place = item(place, 0)
        self.assertEqual(take_steps(steps, deep)[1], failed(place, "kind"))


if __name__ == "__main__":
    unittest.main()

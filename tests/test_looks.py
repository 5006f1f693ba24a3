"""Promises [7], [8] and the interface of `looked`: which looks are made, and which are not."""

import unittest

from partedvalues.errors import TakeEnded
from partedvalues.patterns import Pattern, Program
from partedvalues.takes import looked
from tests.shapes import (ANY, LACKS, ORDERS, VALUE, ShapeCase, call, field, great_part, item, looks_of,
                          looks_of_steps, name, number, read, record, row)


def what(place, answer):
    return (("what", place), answer)


def has(place, key, answer):
    return (("has", place, key), answer)


def none(place, answer):
    return (("none", place), answer)


FIRST = item(VALUE, 0)


class LooksTest(ShapeCase):
    def test_names_and_any_make_none(self):
        for value in (0, None, [], {}):
            self.assertEqual(looks_of(name("a"), value), [])
            self.assertEqual(looks_of(ANY, value), [])

    def test_what(self):
        for part in (row(), record(), row(rest="r"), record(rest="r")):
            for value, answer in ((-5, "integer"), (None, "none"), ({}, "record"), ([], "row")):
                self.assertEqual(looks_of(part, value), [what(VALUE, answer)])

    def test_has_item_by_item(self):
        part = row(ANY, name("a"))
        self.assertEqual(looks_of(part, []), [what(VALUE, "row"), has(VALUE, 0, False)])
        self.assertEqual(looks_of(part, [1]), [what(VALUE, "row"), has(VALUE, 0, True), has(VALUE, 1, False)])
        self.assertEqual(looks_of(part, [1, 2, 3]), [what(VALUE, "row"), has(VALUE, 0, True), has(VALUE, 1, True)])

    def test_has_field_by_field(self):
        part = record(("y", ANY, number(1)), ("x", ANY))
        self.assertEqual(looks_of(part, {"z": 1}),
                         [what(VALUE, "record"), has(VALUE, "y", False), has(VALUE, "x", False)])
        self.assertEqual(looks_of(part, {"x": 1, "y": 1}),
                         [what(VALUE, "record"), has(VALUE, "y", True), has(VALUE, "x", True)])

    def test_none_is_asked_where_none_would_lack(self):
        part = row([name("a"), number(1)], name("b"))
        shown = [what(VALUE, "row"), has(VALUE, 0, True)]
        self.assertEqual(looks_of(part, [None, None]), shown + [has(VALUE, 1, True)])
        for value in (None, 3, [], {}):
            self.assertEqual(looks_of(part, [value, None], lacks="nothing"),
                             shown + [none(FIRST, value is None), has(VALUE, 1, True)])

    def test_none_is_not_asked_of_what_is_not_there(self):
        part = record(("x", ANY, number(1)))
        self.assertEqual(looks_of(part, {}, lacks="nothing"), [what(VALUE, "record"), has(VALUE, "x", False)])

    def test_looks_end_where_the_part_fails(self):
        part = row(row(), row(), ANY)
        self.assertEqual(looks_of(part, [[], 1]), [what(VALUE, "row"), has(VALUE, 0, True), what(FIRST, "row"),
                                                  has(VALUE, 1, True), what(item(VALUE, 1), "integer")])

    def test_soon_and_late(self):
        part = row([row(), call("f")], name("a"))
        shown = [what(VALUE, "row"), has(VALUE, 0, True), none(FIRST, True)]
        result, behind = what(("result", 0), "row"), has(VALUE, 1, True)
        self.assertEqual(looks_of(part, [None, 1], [[]], "soon", "nothing"), shown + [result, behind])
        self.assertEqual(looks_of(part, [None, 1], [[]], "late", "nothing"), shown + [behind, result])

    def test_places_within_places(self):
        part = record(("x", row(ANY, record(("y", row())))))
        at_x = field(VALUE, "x")
        self.assertEqual(looks_of(part, {"x": [1, {"y": 2}]}), [
            what(VALUE, "record"), has(VALUE, "x", True), what(at_x, "row"), has(at_x, 0, True), has(at_x, 1, True),
            what(item(at_x, 1), "record"), has(item(at_x, 1), "y", True), what(field(item(at_x, 1), "y"), "integer")])

    def test_results_are_looked_at(self):
        part = row([row(record()), call("f", call("g"))])
        result = ("result", 1)
        self.assertEqual(looks_of(part, [], [5, [{}]]), [
            what(VALUE, "row"), has(VALUE, 0, False), what(result, "row"), has(result, 0, True),
            what(item(result, 0), "record")])

    def test_each_result_is_a_place_of_its_own(self):
        part = row([row(), call("f")], [row(), call("f")])
        self.assertEqual(looks_of(part, [], [[], []]), [what(VALUE, "row"), has(VALUE, 0, False),
                                                        what(("result", 0), "row"), what(("result", 1), "row")])


class FollowingLooksTest(ShapeCase):
    def test_the_same_look_is_made_once(self):
        steps = [("cases", None, [record(("x", row())), record(("x", record())), ANY])]
        self.assertEqual(looks_of_steps(steps, {"x": 1}), [what(VALUE, "record"), has(VALUE, "x", True),
                                                           what(field(VALUE, "x"), "integer")])
        steps = [("take", None, row(ANY, rest="r")), ("take", None, row(ANY, rest="s"))]
        self.assertEqual(looks_of_steps(steps, [1]), [what(VALUE, "row"), has(VALUE, 0, True)])

    def test_by_another_name(self):
        part = row(name("a"), [row(), read("a")])
        self.assertEqual(looks_of(part, [[]]), [what(VALUE, "row"), has(VALUE, 0, True), has(VALUE, 1, False),
                                                what(FIRST, "row")])
        steps = [("take", None, row(row(rest="a"))), ("set", "b", read("a")), ("take", "b", row())]
        self.assertEqual(looks_of_steps(steps, [[]]), [what(VALUE, "row"), has(VALUE, 0, True), what(FIRST, "row")])

    def test_what_lacks_has_none_behind_it(self):
        part = row([ANY, number(1)], [ANY, number(1)], [ANY, number(1)])
        for order in ORDERS:
            self.assertEqual(looks_of(part, [1], order=order), [what(VALUE, "row"), has(VALUE, 0, True),
                                                                has(VALUE, 1, False)])

    def test_a_row_that_has_an_item_has_all_ahead(self):
        # The rest asks for index 2 alone, the row behind it for the items ahead.
        steps = [("take", None, row(ANY, [ANY, number(0)], [ANY, number(0)], rest="r")),
                 ("take", "r", row([ANY, number(0)])), ("take", None, row(ANY, ANY, ANY, ANY))]
        shown = [what(VALUE, "row")] + [has(VALUE, index, True) for index in range(4)]
        self.assertEqual(looks_of_steps(steps, [1, 2, 3, 4]), shown)
        self.assertEqual(looks_of_steps(steps, [1, 2, 3]), shown[:4] + [has(VALUE, 3, False)])

    def test_what_answers_none(self):
        for value, answer in ((None, "none"), (5, "integer"), ([], "row"), ({}, "record")):
            steps = [("cases", None, [row(row(ANY)), ANY]), ("take", None, row([name("a"), number(1)]))]
            self.assertEqual(looks_of_steps(steps, [value], lacks="nothing")[:3],
                             [what(VALUE, "row"), has(VALUE, 0, True), what(FIRST, answer)])
            self.assertNotIn("none", [look[0] for look, _ in looks_of_steps(steps, [value], lacks="nothing")])

    def test_none_answers_what_if_it_is_true(self):
        steps = [("take", None, row([name("a"), number(1)])), ("cases", None, [row(row()), row(record()), ANY])]
        shown = [what(VALUE, "row"), has(VALUE, 0, True)]
        self.assertEqual(looks_of_steps(steps, [None], lacks="nothing"), shown + [none(FIRST, True)])
        for value, answer in ((5, "integer"), ([], "row"), ({}, "record")):
            self.assertEqual(looks_of_steps(steps, [value], lacks="nothing"),
                             shown + [none(FIRST, False), what(FIRST, answer)])

    def test_none_is_asked_once(self):
        steps = [("take", None, row([name("a"), number(1)])), ("take", None, row([name("b"), number(2)]))]
        for value in (None, 5):
            self.assertEqual(looks_of_steps(steps, [value], lacks="nothing"),
                             [what(VALUE, "row"), has(VALUE, 0, True), none(FIRST, value is None)])

    def test_numbers_are_asked_nothing(self):
        steps = [("set", "a", number(1)), ("cases", "a", [row(), record(), name("b")])]
        self.assertEqual(looks_of_steps(steps, 0), [])
        self.assertEqual(looks_of(row([row(), number(1)]), []), [what(VALUE, "row"), has(VALUE, 0, False)])

    def test_rests_are_asked_for_items_of_the_row(self):
        steps = [("take", None, row(ANY, rest="r")), ("take", "r", row([row(), number(1)], rest="s")),
                 ("take", "s", row(ANY))]
        second = item(VALUE, 1)
        self.assertEqual(looks_of_steps(steps, [0, [], 2], lacks="nothing"), [
            what(VALUE, "row"), has(VALUE, 0, True), has(VALUE, 1, True), none(second, False), what(second, "row"),
            has(VALUE, 2, True)])

    def test_rests_are_not_asked_what_they_are(self):
        for part, value in ((row(rest="r"), []), (row(ANY, rest="r"), [0]), (record(rest="r"), {}),
                            (record(("x", ANY), rest="r"), {"x": 0})):
            steps = [("take", None, part), ("cases", "r", [row(rest="a"), record(rest="b")])]
            self.assertEqual(looks_of_steps(steps, value), looks_of(part, value))

    def test_empty_rests_are_asked_nothing(self):
        steps = [("take", None, row([ANY, number(1)], rest="r")), ("cases", "r", [row(ANY), row(ANY, ANY), ANY])]
        self.assertEqual(looks_of_steps(steps, []), [what(VALUE, "row"), has(VALUE, 0, False)])

    def test_others_are_asked_for_fields_of_the_record(self):
        steps = [("take", None, record(("x", ANY), rest="r")),
                 ("take", "r", record(("x", ANY, number(1)), ("y", row(), number(2)), rest="s")),
                 ("cases", "s", [record(("y", ANY)), record(("x", ANY)), record(("z", ANY)), ANY])]
        at_y = field(VALUE, "y")
        for order in ORDERS:
            self.assertEqual(looks_of_steps(steps, {"x": None, "y": []}, [], order, "nothing"), [
                what(VALUE, "record"), has(VALUE, "x", True), has(VALUE, "y", True), none(at_y, False),
                what(at_y, "row"), has(VALUE, "z", False)])

    def test_looks_of_failed_cases_stay_known(self):
        steps = [("cases", None, [row(ANY, ANY), row(ANY)]), ("take", None, row(rest="r"))]
        self.assertEqual(looks_of_steps(steps, [1]), [what(VALUE, "row"), has(VALUE, 0, True), has(VALUE, 1, False)])


class LookedTest(ShapeCase):
    def test_missing_results(self):
        part = row([name("a"), call("f", call("g"))])
        for many in range(2):
            self.check_error(TakeEnded, many, looks_of, part, [], [0] * many)
        self.assertEqual(looks_of(part, [], [0, 0, 0]), [what(VALUE, "row"), has(VALUE, 0, False)])

    def test_failed_ways_tell_their_looks(self):
        steps = [("take", None, row()), ("take", "q", record())]
        self.assertEqual(looks_of_steps(steps, []), [what(VALUE, "row")])

    def test_arguments(self):
        pattern, value, results = Pattern(row([row(name("a")), call("f")]), "late", "nothing"), [None], [[[1]]]
        looks = looked(results=results, value=value, pattern=pattern)
        self.assertEqual(looks, looked(pattern, value, results))
        self.assertEqual((value, results), ([None], [[[1]]]))
        looks.clear()
        self.assertEqual(len(looked(pattern, value, results)), 5)

    def test_a_pattern_looks_as_one_take(self):
        part = row([record(("x", name("a"), number(1))), call("f")], rest="r")
        for value in (0, [], [{}], [{"x": None}], [None, 1], [[]]):
            for order in ORDERS:
                for lacks in LACKS:
                    self.assertEqual(looked(Pattern(part, order, lacks), value, [{}]),
                                     looked(Program([("take", None, part)], order, lacks), value, [{}]))

    def test_greatest_pattern(self):
        wide = [{letter: None for letter in "abcdefghijkl"}, [[[[[7]]]]]] + [[1, 2]] * 16 + [None, None]
        looks = looks_of(great_part(), wide, [0] * 12 + [8] * 8, "late", "nothing")
        self.assertEqual(len(looks), 1 + 20 + 18 + 1 + 24 + 5 * 2 + 16 * 3)
        answers = [answer for (word, *_), answer in looks if word == "none"]
        self.assertEqual(answers, [True] * 12 + [False] * 16 + [True] * 2)


if __name__ == "__main__":
    unittest.main()

"""Promises [2], [3], [5] and the interface of `Pattern`."""

import unittest

from partedvalues.errors import DoubleField, InvalidName, InvalidPart, InvalidRule, InvalidTerm
from partedvalues.patterns import Pattern, Program
from tests.shapes import (ANY, LACKS, ORDERS, ShapeCase, call, great_part, lists_within, name, number, read, record,
                          row)

BAD_NAMES = ("", "A", "a1", "a b", "ninelette", "abcdefghi", "a_b", " a", "a ", "-", "~", "aB", "*")
BAD_PARTS = ((), ("nam", "a"), ("",), ("name",), ("name", "a", "b"), ("any", "a"), ("any", None), ("row", []),
             ("row", [], None, None), ("row",), ("record", []), ("record", [], None, 1), ("Row", [], None),
             ("read", "a"), ("take", None, ("any",)))
BAD_TERMS = ((), ("red", "a"), ("",), ("read",), ("read", "a", "b"), ("number",), ("number", 1, 2), ("call", "f"),
             ("call",), ("call", "f", [], []), ("name", "a"), ("any",))


def soon(part):
    return Pattern(part, "soon", "absent")


class PatternErrorsTest(ShapeCase):
    def test_bad_parts(self):
        for bad in BAD_PARTS:
            self.check_error(InvalidPart, bad, soon, bad)
            self.check_error(InvalidPart, bad, soon, row(ANY, bad))
            self.check_error(InvalidPart, bad, soon, record(("x", ANY), ("y", row(bad))))

    def test_bad_names(self):
        for bad in BAD_NAMES:
            self.check_error(InvalidName, bad, soon, name(bad))
            self.check_error(InvalidName, bad, soon, row(rest=bad))
            self.check_error(InvalidName, bad, soon, record(rest=bad))
            self.check_error(InvalidName, bad, soon, record((bad, ANY)))
            self.check_error(InvalidName, bad, soon, row([ANY, read(bad)]))
            self.check_error(InvalidName, bad, soon, row([ANY, call(bad)]))
            self.check_error(InvalidName, bad, soon, row([ANY, call("f", number(1), call("g", read(bad)))]))

    def test_good_names(self):
        for good in ("a", "z", "abcdefgh", "stuvwxyz", "name", "value"):
            part = record((good, name(good), call(good, read(good))), rest=good)
            self.assertEqual(soon(part).part, part)

    def test_bad_terms(self):
        for bad in BAD_TERMS:
            self.check_error(InvalidTerm, bad, soon, row([ANY, bad]))
            self.check_error(InvalidTerm, bad, soon, record(("x", ANY, bad)))
            self.check_error(InvalidTerm, bad, soon, row([ANY, call("f", number(1), bad)]))
            self.check_error(InvalidTerm, bad, soon, row([ANY, call("f", call("g", bad))]))

    def test_double_fields(self):
        self.check_error(DoubleField, "x", soon, record(("x", ANY), ("y", ANY), ("x", ANY)))
        self.check_error(DoubleField, "y", soon, record(("x", ANY), ("y", ANY), ("y", ANY), ("x", ANY)))
        self.check_error(DoubleField, "x", soon, row(record(("y", record(("x", ANY), ("x", ANY))))))

    def test_a_field_may_stand_in_several_parts(self):
        part = record(("x", record(("x", ANY), ("y", ANY))), ("y", record(("x", ANY))))
        self.assertEqual(len(soon(part)), 6)

    def test_bad_rules(self):
        for bad in ("", "sooner", "Soon", "absent", "nothing", "soon "):
            self.check_error(InvalidRule, bad, Pattern, ANY, bad, "absent")
            self.check_error(InvalidRule, bad, Pattern, ANY, bad, "worse")
        for bad in ("", "soon", "late", "none", "Absent"):
            self.check_error(InvalidRule, bad, Pattern, ANY, "late", bad)

    def test_rest_ahead_of_items_and_fields(self):
        self.check_error(InvalidName, "R", soon, row((), rest="R"))
        self.check_error(InvalidName, "R", soon, record(("X", ()), rest="R"))

    def test_outer_part_ahead_of_inner_part(self):
        outer = ("row", [(("name",), None)], None, None)
        self.check_error(InvalidPart, outer, soon, outer)
        self.check_error(InvalidName, "R", soon, row(row(name("N")), rest="R"))

    def test_field_name_then_double_then_part_then_default(self):
        self.check_error(InvalidName, "X", soon, record(("X", (), ())))
        self.check_error(DoubleField, "x", soon, record(("x", ANY), ("x", (), ())))
        self.check_error(InvalidPart, (), soon, record(("x", (), ("read",))))
        self.check_error(InvalidTerm, ("read",), soon, record(("x", ANY, ("read",)), ("X", ())))

    def test_entry_by_entry(self):
        self.check_error(InvalidTerm, ("read",), soon, row([ANY, ("read",)], ()))
        self.check_error(InvalidName, "D", soon, row([row([ANY, read("D")]), ("read",)], ()))
        self.check_error(InvalidPart, ("b",), soon, row(("b",), [ANY, ("read",)]))
        self.check_error(InvalidName, "Y", soon, record(("x", ANY), ("Y", ANY), ("x", ANY)))

    def test_term_ahead_of_its_terms(self):
        self.check_error(InvalidName, "F", soon, row([ANY, call("F", ())]))
        self.check_error(InvalidTerm, (), soon, row([ANY, call("f", (), read("A"))]))
        self.check_error(InvalidName, "A", soon, row([ANY, call("f", call("g", read("A")), ())]))

    def test_rules_last(self):
        self.check_error(InvalidTerm, (), Pattern, row([ANY, ()]), "sooner", "less")
        self.check_error(InvalidRule, "sooner", Pattern, row(), "sooner", "less")
        self.check_error(InvalidRule, "less", Pattern, row(), "soon", "less")

    def test_lists_of_errors_are_new(self):
        bad = ("row", [(("row", [], None), None)], None, [])
        self.check_new(self.check_error(InvalidPart, bad, soon, bad).value, bad)
        shared = []
        bad = ("call", "f", [("call", "g", shared), ("call", "g", shared)], shared)
        self.check_new(self.check_error(InvalidTerm, bad, soon, row([ANY, bad])).value, bad)


class PatternTest(ShapeCase):
    def test_properties(self):
        part = row([name("a"), call("f", read("b"), number(-3))], record(("x", ANY), rest="c"), rest="d")
        for order in ORDERS:
            for lacks in LACKS:
                pattern = Pattern(part, order, lacks)
                self.assertEqual((pattern.part, pattern.order, pattern.lacks), (part, order, lacks))
                self.assertEqual(Pattern(lacks=lacks, order=order, part=part), pattern)

    def test_properties_cannot_be_set(self):
        pattern = soon(ANY)
        for word in ("part", "order", "lacks"):
            with self.assertRaises(AttributeError):
                setattr(pattern, word, "late")

    def test_names(self):
        self.assertEqual(soon(ANY).names(), [])
        self.assertEqual(soon(name("a")).names(), ["a"])
        part = row([name("c"), call("f", read("q"))], record(("x", name("a"), read("p")), rest="c"), rest="b")
        self.assertEqual(soon(part).names(), ["a", "b", "c"])

    def test_number_of_parts(self):
        self.assertEqual([len(soon(part)) for part in (ANY, name("a"), row(), record(rest="r"))], [1, 1, 1, 1])
        part = row([name("c"), call("f", read("q"))], record(("x", name("a"), read("p")), ("y", ANY), rest="c"))
        self.assertEqual(len(soon(part)), 5)

    def test_with_order(self):
        for lacks in LACKS:
            pattern = Pattern(row([name("a"), number(1)]), "soon", lacks)
            late = pattern.with_order("late")
            self.assertIs(type(late), Pattern)
            self.assertEqual(late, Pattern(row([name("a"), number(1)]), "late", lacks))
            self.assertEqual((pattern.order, late.order, late.lacks), ("soon", "late", lacks))
            self.assertEqual(late.with_order(order="soon"), pattern)

    def test_with_order_errors(self):
        pattern = soon(name("a"))
        self.check_error(InvalidRule, "sooner", pattern.with_order, "sooner")
        self.assertEqual(pattern, soon(name("a")))

    def test_equal(self):
        pattern = soon(row([name("a"), call("f", read("b"))], rest="c"))
        self.assertTrue(pattern == soon(row([name("a"), call("f", read("b"))], rest="c")))
        self.assertFalse(pattern != soon(row([name("a"), call("f", read("b"))], rest="c")))
        unlike = [row([name("a"), call("f", read("b"))]), row([name("a"), call("f", read("c"))], rest="c"),
                  row([name("b"), call("f", read("b"))], rest="c"), row(name("a"), rest="c"), ANY,
                  record(("a", name("a"), call("f", read("b"))), rest="c")]
        for part in unlike:
            self.assertTrue(pattern != soon(part))
            self.assertFalse(pattern == soon(part))
        self.assertNotEqual(pattern, pattern.with_order("late"))
        self.assertNotEqual(pattern, Pattern(pattern.part, "soon", "nothing"))

    def test_sequence_of_fields_counts(self):
        self.assertNotEqual(soon(record(("x", ANY), ("y", ANY))), soon(record(("y", ANY), ("x", ANY))))

    def test_equal_to_nothing_else(self):
        pattern = soon(ANY)
        for other in (None, ANY, "soon absent _", 1, [], Program([("take", None, ANY)], "soon", "absent")):
            self.assertFalse(pattern == other)
            self.assertTrue(pattern != other)

    def test_passed_lists_are_not_kept(self):
        terms, items, fields = [read("a")], [], []
        items.append((name("a"), ("call", "f", terms)))
        fields.append(("x", ("row", items, None), ("call", "g", terms)))
        part = ("record", fields, None)
        pattern = soon(part)
        before = pattern.part
        self.check_new(before, part)
        terms.append(number(1))
        items.append((ANY, None))
        fields.clear()
        self.assertEqual(pattern.part, before)
        self.assertEqual(pattern.part, record(("x", row([name("a"), call("f", read("a"))]), call("g", read("a")))))

    def test_arguments_are_not_modified(self):
        part = row([name("a"), call("f", read("b"))], record(("x", ANY)), rest="r")
        again = row([name("a"), call("f", read("b"))], record(("x", ANY)), rest="r")
        soon(part).with_order("late").names()
        self.assertEqual(part, again)

    def test_told_lists_are_new(self):
        pattern = soon(row([name("a"), call("f", read("b"))], record(("x", ANY)), rest="r"))
        first, second, names = pattern.part, pattern.part, pattern.names()
        self.check_new(first, second)
        for each in lists_within(first):
            each.clear()
        names.clear()
        self.assertEqual(pattern.part, second)
        self.assertEqual(pattern.names(), ["a", "r"])

    def test_a_list_in_several_places_is_told_as_several(self):
        items, terms = [], []
        part = row([("row", items, None), ("call", "f", terms)], [("row", items, None), ("call", "f", terms)])
        pattern = soon(part)
        self.check_new(pattern.part, part)
        pattern.part[1][0][0][1].append((ANY, None))
        self.assertEqual(len(pattern), 3)

    def test_changed_order_keeps_lists_apart(self):
        pattern = soon(row(row()))
        late = pattern.with_order("late")
        self.check_new(late.part, pattern.part)

    def test_asked_again_and_again(self):
        pattern = soon(row([name("b"), call("f", read("b"))], rest="a"))
        for _ in range(3):
            self.assertEqual((len(pattern), pattern.names()), (2, ["a", "b"]))
            self.assertEqual((pattern.order, pattern.lacks), ("soon", "absent"))
            self.assertEqual(pattern.part, row([name("b"), call("f", read("b"))], rest="a"))

    def test_greatest_patterns(self):
        part = great_part()
        for order in ORDERS:
            pattern = Pattern(part, order, "nothing")
            self.assertEqual((len(pattern), len(pattern.names())), (70, 30))
            self.assertEqual(pattern.part, part)
            self.assertEqual(pattern, Pattern(pattern.part, order, "nothing"))
            self.check_new(pattern.part, part)


if __name__ == "__main__":
    unittest.main()

"""Promises [2], [3], [11] and the interface of `Program`."""

import unittest

from partedvalues.errors import DoubleField, InvalidName, InvalidPart, InvalidRule, InvalidTerm, UnknownPlace
from partedvalues.patterns import Pattern, Program
from tests.shapes import (ANY, LACKS, ORDERS, ShapeCase, call, great_part, lists_within, name, number, read, record,
                          row)

BAD_STEPS = ((), ("tak", None, ANY), ("",), ("take", "a"), ("take", None, ANY, ANY), ("take",), ("set", "a"),
             ("set", "a", ("number", 1), None), ("cases", None), ("cases", None, [], []), ("name", "a"), ("any",),
             ("row", [], None), ("call", "f", []), ("read", "a"))

STEPS = [("take", None, row(name("c"), rest="a")), ("set", "b", call("f", read("a"))),
         ("cases", "b", [row(), record(("x", name("d")), rest="c"), ANY])]


def soon(steps):
    return Program(steps, "soon", "absent")


class ProgramErrorsTest(ShapeCase):
    def test_bad_steps(self):
        for bad in BAD_STEPS:
            self.check_error(InvalidPart, bad, soon, [bad])
            self.check_error(InvalidPart, bad, soon, STEPS + [bad])

    def test_bad_names(self):
        for bad in ("", "A", "abcdefghi", "a1", " ", "-"):
            self.check_error(InvalidName, bad, soon, [("take", bad, ANY)])
            self.check_error(InvalidName, bad, soon, [("set", bad, number(1))])
            self.check_error(InvalidName, bad, soon, [("cases", bad, [])])
            self.check_error(InvalidName, bad, soon, [("take", None, name(bad))])
            self.check_error(InvalidName, bad, soon, [("set", "a", read(bad))])
            self.check_error(InvalidName, bad, soon, [("cases", None, [ANY, row(rest=bad)])])

    def test_none_is_a_name_of_take_and_cases_alone(self):
        self.check_error(InvalidName, None, soon, [("set", None, number(1))])
        self.assertEqual(len(soon([("take", None, ANY), ("cases", None, [ANY])])), 2)

    def test_errors_of_parts_and_terms(self):
        self.check_error(InvalidPart, ("any", 1), soon, [("take", "a", row(("any", 1)))])
        self.check_error(InvalidPart, ("rows",), soon, [("cases", "a", [row(), ("rows",)])])
        self.check_error(InvalidTerm, ("any",), soon, [("set", "a", ("any",))])
        self.check_error(InvalidTerm, ("reed", "a"), soon, [("set", "a", call("f", number(1), ("reed", "a")))])
        self.check_error(DoubleField, "x", soon, [("cases", "a", [row(), record(("x", ANY), ("x", ANY))])])
        self.check_error(InvalidTerm, (), soon, [("take", None, row([ANY, ()]))])

    def test_step_ahead_of_name_ahead_of_part(self):
        self.check_error(InvalidPart, ("take", "A", (), 1), soon, [("take", "A", (), 1)])
        self.check_error(InvalidName, "A", soon, [("take", "A", ())])
        self.check_error(InvalidName, "A", soon, [("set", "A", ())])
        self.check_error(InvalidName, "A", soon, [("cases", "A", [()])])

    def test_step_by_step_and_case_by_case(self):
        self.check_error(InvalidTerm, (), soon, [("set", "a", ()), ()])
        self.check_error(InvalidName, "B", soon, [("take", None, ANY), ("take", "B", ANY), ("set", "a", ())])
        self.check_error(InvalidName, "B", soon, [("cases", None, [ANY, name("B"), ()])])

    def test_rules_last(self):
        self.check_error(InvalidTerm, (), Program, [("take", None, ANY), ("set", "a", ())], "sooner", "less")
        self.check_error(InvalidRule, "sooner", Program, [], "sooner", "less")
        self.check_error(InvalidRule, "less", Program, [], "late", "less")
        self.check_error(InvalidRule, "absent", Program, STEPS, "absent", "soon")

    def test_lists_of_errors_are_new(self):
        bad = ("cases", None, [row()], [])
        self.check_new(self.check_error(InvalidPart, bad, soon, [bad]).value, bad)
        bad = ("row", [], [])
        bad = bad + (bad[1],)
        self.check_new(self.check_error(InvalidPart, bad, soon, [("cases", None, [bad])]).value, bad)

    def test_unknown_places(self):
        program = soon(STEPS)
        for index in (-999, -3, -1, 3, 4, 999):
            self.check_error(UnknownPlace, index, program.without, index)
        for index in (-999, -3, -1, 2, 3, 999):
            self.check_error(UnknownPlace, index, program.exchanged, index)
        for act in (soon([]).without, soon([]).exchanged, soon(STEPS[:1]).exchanged):
            self.check_error(UnknownPlace, 0, act, 0)
        self.assertEqual(program, soon(STEPS))


class ProgramTest(ShapeCase):
    def test_properties(self):
        for order in ORDERS:
            for lacks in LACKS:
                program = Program(STEPS, order, lacks)
                self.assertEqual((program.steps, program.order, program.lacks), (STEPS, order, lacks))
                self.assertEqual(Program(lacks=lacks, order=order, steps=STEPS), program)

    def test_properties_cannot_be_set(self):
        program = soon(STEPS)
        for word in ("steps", "order", "lacks"):
            with self.assertRaises(AttributeError):
                setattr(program, word, "late")

    def test_number_of_steps(self):
        self.assertEqual([len(soon(STEPS[:many])) for many in range(4)], [0, 1, 2, 3])
        self.assertEqual(len(soon([("cases", None, [ANY] * 24)])), 1)

    def test_names(self):
        self.assertEqual(soon([]).names(), [])
        self.assertEqual(soon([("cases", "q", [])]).names(), [])
        self.assertEqual(soon(STEPS).names(), ["a", "b", "c", "d"])
        self.assertEqual(soon([("take", "p", name("z")), ("set", "y", read("q")), ("set", "y", number(1))]).names(),
                         ["y", "z"])

    def test_with_order(self):
        for lacks in LACKS:
            program = Program(STEPS, "late", lacks)
            changed = program.with_order("soon")
            self.assertIs(type(changed), Program)
            self.assertEqual(changed, Program(STEPS, "soon", lacks))
            self.assertEqual(changed.with_order(order="late"), program)
        self.check_error(InvalidRule, "", soon(STEPS).with_order, "")

    def test_without(self):
        for order in ORDERS:
            for lacks in LACKS:
                program = Program(STEPS, order, lacks)
                for index in range(3):
                    kept = STEPS[:index] + STEPS[index + 1:]
                    self.assertEqual(program.without(index), Program(kept, order, lacks))
                    self.assertEqual(program.without(index=index), program.without(index))
        self.assertEqual(soon(STEPS[:1]).without(0), soon([]))
        self.assertEqual(program.steps, STEPS)

    def test_exchanged(self):
        for order in ORDERS:
            for lacks in LACKS:
                program = Program(STEPS, order, lacks)
                self.assertEqual(program.exchanged(0), Program([STEPS[1], STEPS[0], STEPS[2]], order, lacks))
                self.assertEqual(program.exchanged(index=1), Program([STEPS[0], STEPS[2], STEPS[1]], order, lacks))
                self.assertEqual(program.exchanged(1).exchanged(1), program)
        self.assertEqual(program.steps, STEPS)

    def test_equal(self):
        program = soon(STEPS)
        self.assertTrue(program == soon(list(STEPS)))
        self.assertFalse(program != soon(list(STEPS)))
        for other in (soon(STEPS[:2]), soon([]), program.exchanged(0), program.with_order("late"),
                      Program(STEPS, "soon", "nothing"), soon([("take", "a", ANY)] + STEPS[1:])):
            self.assertTrue(program != other)
            self.assertFalse(program == other)
        self.assertNotEqual(soon([("take", None, ANY)]), soon([("cases", None, [ANY])]))

    def test_equal_to_nothing_else(self):
        program = soon([("take", None, ANY)])
        for other in (None, [("take", None, ANY)], Pattern(ANY, "soon", "absent"), 0, "soon absent: take - _"):
            self.assertFalse(program == other)
            self.assertTrue(program != other)

    def test_passed_lists_are_not_kept(self):
        items, parts, terms = [(ANY, None)], [], [number(1)]
        parts.append(("row", items, None))
        steps = [("cases", None, parts), ("set", "a", ("call", "f", terms))]
        program = soon(steps)
        before = program.steps
        self.check_new(before, steps)
        for each in (items, parts, terms, steps):
            each.clear()
        self.assertEqual(program.steps, before)
        self.assertEqual(before, [("cases", None, [row(ANY)]), ("set", "a", call("f", number(1)))])

    def test_told_lists_are_new(self):
        program = soon(STEPS)
        first, second, names = program.steps, program.steps, program.names()
        self.check_new(first, second, STEPS)
        for each in lists_within(first):
            each.clear()
        names.clear()
        self.assertEqual(program.steps, second)
        self.assertEqual(program.steps, STEPS)
        self.assertEqual(program.names(), ["a", "b", "c", "d"])

    def test_a_list_in_several_places_is_told_as_several(self):
        parts = [row()]
        steps = [("cases", None, parts), ("cases", None, parts)]
        program = soon(steps)
        self.check_new(program.steps, steps)
        self.check_new(program.exchanged(0).steps, program.without(0).steps, program.steps)

    def test_asked_again_and_again(self):
        program = soon(STEPS)
        for _ in range(3):
            self.assertEqual((len(program), program.names(), program.order), (3, ["a", "b", "c", "d"], "soon"))
            self.assertEqual((program.steps, program.lacks), (STEPS, "absent"))

    def test_greatest_programs(self):
        long = [("take", None, great_part())] + [("set", "a", number(1))] * 23
        wide = [("cases", None, [row(name("a"), ANY)] + [ANY] * 23)] + [("take", "a", ANY)] * 23
        for steps in (long, wide):
            program = Program(steps, "late", "nothing")
            self.assertEqual(len(program), 24)
            self.assertEqual(program.steps, steps)
            self.assertEqual(program.without(23).exchanged(0).steps, [steps[1], steps[0]] + steps[2:23])
            self.check_new(program.steps, steps)


if __name__ == "__main__":
    unittest.main()

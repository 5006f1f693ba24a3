"""Promises [2], [3], [10], [11] and the interface of `changes`."""

import unittest

from partedvalues.changes import (fails, least_sets, left_over, may_exchange, may_swap, needless, surely_binds,
                                  untaken)
from partedvalues.errors import UnknownPlace
from partedvalues.patterns import Pattern, Program
from partedvalues.takes import take
from tests.shapes import ANY, LACKS, ORDERS, call, name, number, read, record, row
from tests.test_compare import CompareCase, cases, late, put, soon, steps, taken

# Steps that bind what the others do not read, and call nothing.
APART = [put("a", number(1)), put("b", number(2)), put("c", number(3))]
# The first case takes nothing that the second one takes.
PARTED = cases(row(name("a")), record(("x", name("a"))), name("a"), ANY)


class NeedlessTest(CompareCase):
    def test_nothing_is_needless(self):
        for program in (steps(), steps(*APART), steps(taken(row())), steps(put("a", call("f")), put("a", call("f")))):
            self.assertEqual(needless(program), [])

    def test_what_is_bound_again(self):
        self.assertEqual(needless(steps(put("a", number(1)), put("b", number(2)), put("a", number(3)))), [0])
        self.assertEqual(needless(steps(put("a", number(1)), put("b", read("a")), put("a", number(3)))), [])
        # Any of the two is enough, one at a time.
        self.assertEqual(needless(steps(put("a", number(1)), put("a", number(1)))), [0, 1])
        # The call of the first one is watched.
        self.assertEqual(needless(steps(put("a", call("f")), put("a", number(1)))), [])

    def test_what_binds_nothing(self):
        self.assertEqual(needless(steps(taken(ANY), cases(ANY), cases(row(), ANY))), [0, 1, 2])
        self.assertEqual(needless(steps(taken(name("a")), taken(ANY, "a"), cases(row(ANY), ANY, at="a"))), [1, 2])
        # It fails where its name is not bound, and where no case takes.
        self.assertEqual(needless(steps(taken(ANY, "q"))), [])
        self.assertEqual(needless(steps(cases(row()), cases(record()))), [])
        self.assertEqual(needless(steps(cases(row()), cases())), [0])
        self.assertEqual(needless(steps(cases(), cases(row()))), [1])

    def test_what_fails_first(self):
        self.assertEqual(needless(steps(taken(row(ANY)), taken(row()))), [1])
        self.assertEqual(needless(steps(taken(row()), taken(row(ANY)))), [0])
        self.assertEqual(needless(steps(taken(row(ANY)), taken(record(("x", ANY))))), [])
        # What is bound behind a step that always fails.
        self.assertEqual(needless(steps(taken(ANY, "q"), put("a", number(1)))), [1])
        self.assertEqual(needless(steps(put("a", call("f")), taken(ANY, "q"), put("b", call("f")))), [2])
        # The same failure at another step.
        self.assertEqual(needless(steps(taken(ANY, "q"), taken(ANY, "q"))), [0, 1])
        # A step that is done by its place, not as a case.
        self.assertEqual(needless(steps(cases(row()), taken(row()))), [1])
        self.assertEqual(needless(steps(taken(row()), cases(row()))), [1])

    def test_rules(self):
        # In the order "soon" the first step fails where the field lacks.
        two = [taken(record(("x", name("a"), read("b")), ("y", name("b")))), taken(record(("x", ANY)))]
        self.assertEqual((needless(steps(*two)), needless(steps(*two, order="late"))), ([1], []))
        # With "nothing" the first step binds 1 where None stands, and the second one None.
        two = [taken(row([name("a"), number(1)])), cases(row(name("a")), ANY)]
        self.assertEqual((needless(steps(*two)), needless(steps(*two, lacks="nothing"))), ([1], []))


class LeastSetsTest(CompareCase):
    def test_one_set(self):
        self.assertEqual(least_sets(steps()), [[]])
        self.assertEqual(least_sets(steps(taken(ANY), cases(row(), ANY))), [[]])
        self.assertEqual(least_sets(steps(*APART)), [[0, 1, 2]])
        self.assertEqual(least_sets(steps(put("a", number(1)), put("b", number(2)), put("a", number(3)))), [[1, 2]])
        self.assertEqual(least_sets(steps(taken(row(ANY)), taken(row()), put("a", number(1)))), [[0, 2]])

    def test_several_sets(self):
        self.assertEqual(least_sets(steps(*[put("a", number(1))] * 3)), [[0], [1], [2]])
        self.assertEqual(least_sets(steps(taken(ANY, "q"), put("a", number(1)), taken(ANY, "q"))), [[0], [2]])
        self.assertEqual(least_sets(steps(put("a", number(1)), put("b", number(2)), put("a", number(1)))),
                         [[0, 1], [1, 2]])

    def test_by_number_then_as_lists(self):
        self.assertEqual(least_sets(steps(taken(row(name("a"), name("b"))), taken(row(ANY, name("b"))),
                                          taken(row(name("a"), name("b"))))), [[0], [2]])
        program = steps(taken(row(name("a"))), cases(row(name("b"), rest="c"), ANY), taken(row(name("a"))))
        self.assertEqual(least_sets(program), [[0, 1], [1, 2]])

    def test_a_greater_set_beside_a_smaller_one(self):
        # The last step alone does all, and so do the first two together, though none of them does alone.
        whole = taken(row(name("a"), name("b")))
        for lacks in LACKS:
            program = steps(taken(row(name("a"), ANY)), taken(row(ANY, name("b"))), whole, lacks=lacks)
            self.assertEqual(least_sets(program), [[2], [0, 1]])
            self.assertEqual(needless(program), [0, 1, 2])

    def test_needless_steps_that_are_not_needless_together(self):
        program = steps(put("a", number(1)), put("a", number(1)))
        self.assertEqual((needless(program), least_sets(program)), ([0, 1], [[0], [1]]))

    def test_lists_are_new(self):
        program = steps(put("a", number(1)), put("b", number(2)), put("a", number(1)))
        for tell in (needless, least_sets, fails, untaken):
            self.check_new(tell(program), tell(program), program.steps)


class MayExchangeTest(CompareCase):
    def test_steps_apart(self):
        self.assertEqual([may_exchange(steps(*APART), index) for index in range(2)], [True, True])
        self.assertIs(may_exchange(steps(taken(name("a")), taken(name("b"))), 0), True)
        self.assertIs(may_exchange(index=0, program=steps(*APART)), True)

    def test_steps_that_hang_together(self):
        for one, other in ((put("a", number(1)), put("b", read("a"))), (put("a", number(1)), put("a", number(2))),
                           (put("a", call("f")), put("b", call("f"))), (put("a", call("f")), put("b", call("g"))),
                           (taken(name("a")), taken(name("b"), "a")), (taken(row(ANY)), taken(record(("x", ANY)))),
                           (put("a", call("f")), taken(row())), (cases(row()), taken(row()))):
            for program in (steps(one, other), steps(other, one), steps(one, other, put("c", number(1)))):
                self.assertIs(may_exchange(program, 0), False, program.steps)

    def test_names_of_a_failing_way(self):
        # Which of the names is bound at the end makes no difference where the program fails.
        self.assertTrue(may_exchange(steps(put("a", number(1)), put("a", number(2)), taken(ANY, "q")), 0))
        self.assertTrue(may_exchange(steps(put("a", number(1)), put("a", number(2)), taken(ANY, "q")), 1))
        self.assertFalse(may_exchange(steps(put("a", number(1)), put("a", call("f")), taken(ANY, "q")), 1))
        self.assertTrue(may_exchange(steps(put("a", number(1)), put("a", number(1))), 0))

    def test_the_step_and_the_next_one(self):
        program = steps(put("a", number(1)), put("b", read("a")), put("c", number(3)))
        self.assertEqual([may_exchange(program, index) for index in range(2)], [False, True])
        program = steps(put("c", number(3)), put("a", number(1)), put("b", read("a")))
        self.assertEqual([may_exchange(program, index) for index in range(2)], [True, False])

    def test_errors(self):
        for program in (steps(), steps(taken(ANY)), steps(*APART)):
            for index in (-999, -2, -1, len(program) - 1, len(program), 3, 999):
                if index not in (0, 1) or index >= len(program) - 1:
                    self.check_error(UnknownPlace, index, may_exchange, program, index)
        self.check_error(UnknownPlace, 2, may_exchange, index=2, program=steps(*APART))


class FailsTest(CompareCase):
    def test_surely_binds(self):
        for part in (ANY, name("a")):
            for order in ORDERS:
                for lacks in LACKS:
                    self.assertIs(surely_binds(Pattern(part, order, lacks)), True)
        for program in (steps(), steps(*APART), steps(PARTED), steps(taken(name("a")), taken(ANY, "a")),
                        steps(put("a", call("f", number(1)))), steps(cases(row(ANY), ANY)),
                        steps(cases(row(rest="r"), name("r")), cases(row(), ANY, at="r"))):
            self.assertIs(surely_binds(program), True, program.steps)
            self.assertEqual(fails(program), [])

    def test_does_not_surely_bind(self):
        for part in (row(), record(), row(rest="a"), record(("x", ANY, number(1))), row([ANY, read("q")])):
            for order in ORDERS:
                self.assertIs(surely_binds(Pattern(part, order, "nothing")), False)
                self.assertIs(surely_binds(steps(taken(part), order=order)), False)
        for program in (steps(taken(ANY, "q")), steps(cases()), steps(cases(row(), record())),
                        steps(put("a", read("q"))), steps(PARTED, taken(row(), "a"))):
            self.assertIs(surely_binds(program), False)

    def test_steps_that_fail(self):
        self.assertEqual(fails(steps(taken(row()), taken(row(ANY)), taken(row()))), [0, 1])
        self.assertEqual(fails(steps(cases(row()), taken(ANY, "c"))), [0, 1])
        self.assertEqual(fails(steps(cases(row(), ANY), taken(row()))), [1])
        self.assertEqual(fails(steps(put("a", read("q")), taken(row()))), [0])
        self.assertEqual(fails(steps(put("a", number(1)), cases(row(), at="a"), taken(ANY, "q"))), [1])
        self.assertEqual(fails(steps(cases(at="q"))), [0])
        self.assertEqual(fails(steps(cases())), [0])

    def test_a_case_that_fails_alone_is_no_failure(self):
        self.assertEqual(fails(steps(cases(row(row()), record(), ANY))), [])
        # The case takes it by a default that reads what the other cases do not bind.
        self.assertEqual(fails(steps(cases(row([ANY, read("q")]), ANY))), [])
        self.assertEqual(fails(steps(cases(row(name("b")), name("a")), put("c", read("a")))), [1])

    def test_orders(self):
        part = row([ANY, read("r")], rest="r")
        self.assertEqual((fails(steps(taken(part), cases(part, ANY))),
                          fails(steps(cases(part, ANY), order="late"))), ([0], []))


class UntakenTest(CompareCase):
    def test_all_are_taken(self):
        for program in (steps(), steps(taken(row())), steps(cases()), steps(cases(row(), record(), ANY)),
                        steps(cases(row(ANY), row(), ANY), cases(ANY))):
            self.assertEqual(untaken(program), [])

    def test_behind_what_takes_all(self):
        self.assertEqual(untaken(steps(PARTED)), [(0, 3)])
        self.assertEqual(untaken(steps(cases(ANY, row(), ANY))), [(0, 1), (0, 2)])
        self.assertEqual(untaken(steps(put("a", number(1)), cases(row(), row(ANY), row(row())))), [(1, 1), (1, 2)])
        self.assertEqual(untaken(steps(cases(record(), record(("x", ANY)), row(), row(ANY, rest="r")))),
                         [(0, 1), (0, 3)])

    def test_what_the_steps_ahead_tell(self):
        self.assertEqual(untaken(steps(taken(row(ANY)), cases(record(), row(ANY), row()))), [(1, 0), (1, 2)])
        self.assertEqual(untaken(steps(put("a", number(1)), cases(row(), record(), ANY, at="a"))), [(1, 0), (1, 1)])
        self.assertEqual(untaken(steps(cases(row(), ANY), cases(row(), ANY))), [])

    def test_steps_that_are_never_come_to(self):
        self.assertEqual(untaken(steps(taken(ANY, "q"), cases(row(), ANY))), [(1, 0), (1, 1)])
        self.assertEqual(untaken(steps(cases(), cases(ANY))), [(1, 0)])
        self.assertEqual(untaken(steps(cases(row(), ANY, at="q"))), [(0, 0), (0, 1)])

    def test_a_case_is_taken_though_the_program_fails_then(self):
        self.assertEqual(untaken(steps(cases(row(), ANY), taken(ANY, "q"))), [])

    def test_cases_that_always_fail(self):
        for order in ORDERS:
            self.assertEqual(untaken(steps(cases(row(ANY, [ANY, read("q")]), ANY), order=order)), [])
            # An item that lacks with all behind it.
            self.assertEqual(untaken(steps(put("n", number(1)), cases(row([row(), read("n")], ANY), ANY, at="n"),
                                           order=order)), [(1, 0)])

    def test_ascending(self):
        program = steps(cases(ANY, row(), record()), put("a", number(1)), cases(ANY, ANY, at="a"))
        self.assertEqual(untaken(program), [(0, 1), (0, 2), (2, 1)])
        self.assertEqual(untaken(program=program), untaken(program))


class MaySwapTest(CompareCase):
    def test_cases_apart(self):
        program = steps(PARTED)
        self.assertEqual([may_swap(program, 0, case) for case in range(3)], [True, False, False])
        self.assertIs(may_swap(case=0, step=0, program=program), True)
        self.assertIs(may_swap(steps(cases(row(), record(), row(ANY))), 0, 1), True)

    def test_cases_that_take_the_same(self):
        self.assertIs(may_swap(steps(cases(row(name("a")), row(name("b")))), 0, 0), False)
        self.assertIs(may_swap(steps(cases(row(name("a")), row(name("a"), ANY))), 0, 0), True)
        self.assertIs(may_swap(steps(cases(ANY, row())), 0, 0), True)
        self.assertIs(may_swap(steps(cases(name("a"), row(rest="a"))), 0, 0), True)
        self.assertIs(may_swap(steps(cases(name("a"), row([ANY, number(1)], rest="a"))), 0, 0), False)

    def test_calls_of_cases_that_fail_stay(self):
        calling = row([ANY, call("f")], ANY)
        self.assertIs(may_swap(steps(cases(calling, record(), ANY)), 0, 0), True)
        self.assertIs(may_swap(steps(cases(calling, row(rest="r"), ANY)), 0, 0), False)
        # Late defaults are never begun where an item behind them lacks.
        self.assertIs(may_swap(steps(cases(row([ANY, call("f")], ANY), row([ANY, call("g")], ANY, ANY), ANY),
                                     order="late"), 0, 0), True)
        self.assertIs(may_swap(steps(cases(row([ANY, call("f")], ANY), row([ANY, call("g")], ANY, ANY), ANY)), 0, 0),
                      False)

    def test_the_step_and_the_case(self):
        program = steps(cases(row(name("a")), row(name("b"))), taken(ANY), cases(row(), ANY, record()))
        self.assertEqual([may_swap(program, 0, 0), may_swap(program, 2, 0), may_swap(program, 2, 1)],
                         [False, True, True])

    def test_errors(self):
        program = steps(PARTED, taken(row()), cases(ANY), put("a", number(1)), cases())
        for step in (-999, -2, -1, 1, 3, 5, 999):
            for case in (-1, 0, 99):
                self.check_error(UnknownPlace, step, may_swap, program, step, case)
        for case in (-999, -1, 3, 4, 999):
            self.check_error(UnknownPlace, case, may_swap, program, 0, case)
        for step in (2, 4):
            for case in (-1, 0, 1):
                self.check_error(UnknownPlace, case, may_swap, program, step, case)


class LeftOverTest(CompareCase):
    def check_left_over(self, program, step):
        value, results = left_over(program, step)
        self.check_size(value, results)
        self.check_new([value, results])
        ahead = Program(program.steps[:step], program.order, program.lacks)
        self.assertEqual(take(ahead, value, results)[1][0], "bound")
        end = take(program, value, results)[1]
        self.assertEqual((end[0], end[2]), ("failed", "cases"))
        return value, results

    def test_nothing_is_left_over(self):
        for program in (steps(PARTED), steps(cases(ANY)), steps(cases(row(), name("a"), record()))):
            self.assertIsNone(left_over(program, 0))
        # It is not come to, or does not try its cases, or another step fails.
        self.assertIsNone(left_over(steps(taken(ANY, "q"), cases()), 1))
        self.assertIsNone(left_over(steps(cases(at="q")), 0))
        self.assertIsNone(left_over(steps(cases(row()), cases(row(rest="a"))), 1))
        self.assertIsNone(left_over(steps(cases(row()), cases(ANY), taken(record())), 1))
        self.assertIsNone(left_over(steps(taken(row(ANY)), cases(row(ANY), record())), 1))

    def test_something_is_left_over(self):
        for program, step in ((steps(cases()), 0), (steps(cases(row())), 0), (steps(cases(row(), record())), 0),
                              (steps(cases(row(ANY), record(), row(row()))), 0),
                              (steps(put("a", number(1)), cases(row(), at="a")), 1),
                              (steps(put("a", call("f")), cases(row(), record(), at="a")), 1),
                              (steps(taken(row(name("a"), rest="b")), cases(record(), at="a"), cases(row(ANY), at="b")),
                               2),
                              (steps(cases(row(), ANY), cases(record(), ANY), cases(row(ANY), record(("x", ANY)))), 2)):
            for order in ORDERS:
                for lacks in LACKS:
                    self.check_left_over(Program(program.steps, order, lacks), step)

    def test_the_step_that_is_asked_for(self):
        program = steps(cases(row(), record()), cases(row()))
        value, _ = self.check_left_over(program, 0)
        self.assertNotIsInstance(value, (list, dict))
        value, _ = self.check_left_over(program, 1)
        self.assertIsInstance(value, dict)
        self.assertEqual(left_over(step=1, program=program), left_over(program, 1))

    def test_results_of_all_calls(self):
        part = row([record(("x", ANY, call("g"))), call("f")])
        program = steps(put("a", call("f", call("g"))), cases(part, record(("x", row(), call("f"))), row(ANY)))
        value, results = self.check_left_over(program, 1)
        self.assertGreaterEqual(len(results), 2)

    def test_only_none_is_left_over(self):
        two = [taken(row(name("a"))), cases(row(row()), row([row(), number(1)], rest="r"), row(record()))]
        for lacks in LACKS:
            self.check_left_over(steps(*two, lacks=lacks), 1)
        program = steps(put("n", call("f")), cases(row([ANY, number(1)]), at="n"), cases(row([row(), read("n")])),
                        lacks="nothing")
        self.check_left_over(program, 2)

    def test_errors(self):
        program = steps(taken(row()), PARTED, put("a", number(1)))
        for step in (-999, -3, -1, 0, 2, 3, 999):
            self.check_error(UnknownPlace, step, left_over, program, step)
        self.check_error(UnknownPlace, 0, left_over, steps(), 0)


class ProgramsStayTest(CompareCase):
    def test_programs_stay(self):
        program = steps(PARTED, put("b", read("a")), taken(ANY), order="late", lacks="nothing")
        again = Program(program.steps, "late", "nothing")
        for tell in (needless, least_sets, fails, untaken, surely_binds):
            self.assertEqual(tell(program), tell(program=program))
        for _ in range(2):
            self.assertEqual((may_exchange(program, 0), may_exchange(program, 1)), (False, True))
            self.assertEqual((may_swap(program, 0, 0), left_over(program, 0)), (True, None))
        self.assertEqual(program, again)

    def test_patterns_of_surely_binds(self):
        for pattern in (soon(ANY), late(name("a"))):
            self.assertIs(surely_binds(pattern), True)
        for pattern in (soon(row()), late(record(rest="a"))):
            self.assertIs(surely_binds(program=pattern), False)


if __name__ == "__main__":
    unittest.main()

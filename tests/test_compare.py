"""Promises [2], [10] and the interface of `compare`."""

import unittest

from partedvalues.compare import (alike, first_unlike, idle, lacks_alike, may_change_places, orders_alike, parting,
                                  unbound)
from partedvalues.errors import InvalidPart, UnknownPlace
from partedvalues.patterns import Pattern, Program
from partedvalues.takes import looked, take
from tests.shapes import (ANY, LACKS, ORDERS, VALUE, ShapeCase, call, failed, field, item, lists_within, name, number,
                          read, record, row)


def soon(part, lacks="absent"):
    return Pattern(part, "soon", lacks)


def late(part, lacks="absent"):
    return Pattern(part, "late", lacks)


def steps(*told, order="soon", lacks="absent"):
    return Program(list(told), order, lacks)


def taken(part, at=None):
    return ("take", at, part)


def cases(*parts, at=None):
    return ("cases", at, list(parts))


def put(word, term):
    return ("set", word, term)


TWO = record(("x", name("a"), call("f")), ("y", name("b"), call("g")))


class CompareCase(ShapeCase):
    def check_alike(self, one, other):
        for first, second in ((one, other), (other, one)):
            self.assertIs(alike(first, second), True)
            self.assertIsNone(first_unlike(first, second))
            self.assertIsNone(parting(first, second))

    def check_unlike(self, one, other):
        for first, second in ((one, other), (other, one)):
            self.assertIs(alike(first, second), False)
            value, results = parting(first, second)
            self.assertNotEqual(take(first, value, results), take(second, value, results))
            self.check_size(value, results)
            looks = first_unlike(first, second)
            made = looked(first, value, results) + looked(second, value, results)
            self.assertEqual(sorted(set(map(repr, looks))), sorted(set(map(repr, made))))
            self.assertEqual(len(set(map(repr, looks))), len(looks))

    def check_size(self, value, results):
        self.assertLessEqual(len(results), 80)
        self.assertLessEqual(many_within([value, results]), 300)
        self.assertLessEqual(max(depth_of(each) for each in [value, *results]), 20)


def many_within(value):
    inner = value.values() if isinstance(value, dict) else value
    return 1 + sum(many_within(each) for each in inner) if isinstance(value, (list, dict)) else 1


def depth_of(value):
    inner = value.values() if isinstance(value, dict) else value
    return 1 + max([depth_of(each) for each in inner], default=0) if isinstance(value, (list, dict)) else 0


class AlikeTest(CompareCase):
    def test_equal_ones(self):
        for order in ORDERS:
            for lacks in LACKS:
                for part in (ANY, name("a"), TWO, row([row(name("a")), call("f")], rest="r")):
                    pattern = Pattern(part, order, lacks)
                    self.check_alike(pattern, Pattern(part, order, lacks))
                    self.check_alike(pattern, steps(taken(part), order=order, lacks=lacks))
        self.check_alike(steps(), soon(ANY))

    def test_by_name(self):
        one, other = soon(name("a")), soon(ANY)
        self.assertFalse(alike(other=one, one=other))
        self.assertEqual(first_unlike(other=one, one=other), [])
        self.assertEqual(parting(other=one, one=other), parting(other, one))

    def test_other_ends(self):
        for part in (ANY, name("b"), row(rest="a"), record(rest="a"), row(name("a"))):
            self.check_unlike(soon(name("a")), soon(part))
        self.check_unlike(soon(row()), soon(record()))
        self.check_unlike(soon(row(ANY)), soon(row()))
        self.check_unlike(soon(row(name("a"), ANY)), soon(row(ANY, name("a"))))
        self.check_unlike(soon(row(ANY, ANY, rest="a")), soon(row(ANY, rest="a")))
        self.check_unlike(soon(record(("x", ANY), rest="a")), soon(record(("x", ANY), ("y", ANY, number(1)), rest="a")))

    def test_failing_at_another_place(self):
        self.check_unlike(soon(row(row())), soon(row(record())))
        self.check_unlike(soon(record(("x", ANY), ("y", ANY))), soon(record(("y", ANY), ("x", ANY))))
        self.check_unlike(steps(cases(row())), soon(row()))
        self.check_unlike(steps(cases()), steps(put("a", read("a"))))
        self.check_unlike(steps(put("a", read("b"))), steps(put("a", read("c"))))
        self.check_unlike(steps(taken(row(ANY, rest="r")), taken(row(), "r"), taken(record(), "r")),
                          steps(taken(row(ANY, rest="r")), taken(row(), "r"), taken(record())))

    def test_calls(self):
        self.check_unlike(steps(put("a", call("f"))), steps(put("a", call("g"))))
        self.check_unlike(steps(put("a", call("f"))), steps(put("a", call("f")), put("b", call("f"))))
        self.check_unlike(steps(put("a", call("f", number(1)))), steps(put("a", call("f", number(2)))))
        self.check_unlike(steps(put("a", call("f", number(1)))), steps(put("a", call("f"))))
        self.check_unlike(steps(put("a", call("f")), put("b", call("g"))),
                          steps(put("b", call("g")), put("a", call("f"))))
        # The same functions, bound in another order.
        self.check_unlike(steps(put("a", call("f")), put("b", call("f"))),
                          steps(put("b", call("f")), put("a", call("f"))))
        # A call is watched, though nothing is bound to its result.
        self.check_unlike(soon(row([ANY, call("f")])), soon(row([ANY, number(1)])))
        self.check_alike(soon(row([ANY, number(2)])), soon(row([ANY, number(1)])))

    def test_places_told_alike_by_the_answers(self):
        # Both bind the empty row: one as a rest, the other one as the row itself.
        empty = cases(row([row(), number(0)]), ANY)
        self.check_unlike(steps(taken(row(rest="a")), empty), steps(taken(row([ANY, number(1)], rest="a")), empty))
        one = steps(cases(row(ANY), row(rest="a"), ANY))
        other = steps(cases(row(ANY), row([ANY, number(1)], rest="a"), ANY))
        self.check_alike(one, other)
        # None, as an item and as another one.
        two = taken(row([name("a"), number(1)], [name("b"), number(2)]))
        self.check_alike(steps(two, put("a", read("b")), lacks="nothing"),
                         steps(two, put("a", read("b")), put("b", read("a")), lacks="nothing"))
        self.check_unlike(steps(two, put("a", read("b"))), steps(two, put("b", read("a"))))

    def test_looks_of_both_stand_in_the_lot(self):
        one, other = soon(record(("x", ANY), ("y", name("a"), number(1)))), soon(record(("x", ANY), ("z", name("a"))))
        looks = first_unlike(one, other)
        self.assertEqual(looks[:1], [(("what", VALUE), "record")])
        self.assertLessEqual({look for look, _ in looks}, {("what", VALUE), ("has", VALUE, "x"), ("has", VALUE, "y"),
                                                           ("has", VALUE, "z")})
        self.check_unlike(one, other)

    def test_first_unlike_of_a_plain_pair(self):
        self.assertEqual(first_unlike(soon(row()), soon(row(ANY))),
                         [(("what", VALUE), "row"), (("has", VALUE, 0), False)])
        self.assertEqual(first_unlike(soon(row()), soon(ANY))[0][0], ("what", VALUE))

    def test_shared_results(self):
        # What f gave is taken apart by both, in other steps.
        one = steps(put("a", call("f")), taken(row(name("b")), "a"))
        other = steps(put("a", call("f")), taken(row(name("b"), rest="c"), "a"))
        self.check_unlike(one, other)
        self.check_alike(one, steps(put("a", call("f")), taken(row(ANY), "a"), taken(row(name("b")), "a")))

    def test_repeated_steps(self):
        step = taken(row(name("a"), rest="r"))
        self.check_alike(steps(step), steps(step, step))
        self.check_unlike(steps(put("a", call("f"))), steps(put("a", call("f")), put("a", call("f"))))
        self.check_alike(steps(put("a", number(1)), put("a", number(2))), steps(put("a", number(2))))

    def test_unlike_only_deep_within(self):
        one = soon(row(record(("x", row([name("a"), number(1)])))), "nothing")
        other = soon(row(record(("x", row([name("a"), number(2)])))), "nothing")
        self.check_unlike(one, other)
        at_x = field(item(VALUE, 0), "x")
        self.assertIn((("what", at_x), "row"), first_unlike(one, other))

    def test_values_that_part_what_looks_alike(self):
        # The number of the term must not stand in the value, and rests must not happen to be alike.
        for worth in range(4):
            self.check_unlike(steps(put("a", number(worth))), soon(name("a")))
            self.check_unlike(soon(row(name("a")), "nothing"), soon(row([name("a"), number(worth)]), "nothing"))
        for rests in (("a", "b"), ("b", "a")):
            one, other = [[row(ANY, rest=rest) for rest in (first, second)]
                          for first, second in (rests, rests[::-1])]
            self.check_unlike(soon(row(*one)), soon(row(*other)))
            one, other = [[record(("x", ANY), rest=rest) for rest in (first, second)]
                          for first, second in (rests, rests[::-1])]
            self.check_unlike(soon(row(*one)), soon(row(*other)))
            one, other = [[row(rest=rest) for rest in (first, second)] for first, second in (rests, rests[::-1])]
            self.check_unlike(soon(row(*one)), soon(row(*other)))

    def test_lists_are_new(self):
        one, other = late(TWO), late(row([ANY, number(1)], rest="r"))
        self.check_new(parting(one, other), parting(one, other))
        self.check_new(first_unlike(one, other), first_unlike(one, other))
        self.assertNotEqual(lists_within(parting(one, other)), [])

    def test_greatest_partings(self):
        term = call("f", *[call("f", *[call("g")] * 3)] * 3)
        part = record(*[(letter, name(letter), term) for letter in "wx"])
        one = steps(put("a", term), put("b", term), taken(record(*part[1], ("y", ANY, term), ("z", ANY, term))))
        other = steps(put("a", term), put("b", term), taken(record(*part[1], ("y", ANY, term), ("z", name("z"), term))))
        self.check_unlike(one, other)
        calls, _ = take(one, {}, [0] * 78)
        self.assertEqual(len(calls), 78)
        deep = row(row(row(name("a"), name("b"))))
        chain = [taken(deep), taken(deep, "a"), taken(row(name("c")), "a")]
        self.check_unlike(steps(*chain), steps(*chain[:2], taken(row(name("d")), "a")))


class OrdersTest(CompareCase):
    def test_orders_alike(self):
        for pattern in (soon(TWO), late(TWO), soon(ANY), soon(row(ANY, name("a"), rest="r")),
                        soon(row([name("a"), number(1)], [name("b"), read("a")])),
                        late(row([ANY, call("f")], [ANY, call("g")], rest="r")), steps(put("a", call("f")))):
            self.assertIs(orders_alike(pattern), True, pattern.order)

    def test_orders_unlike(self):
        for part in (row([name("a"), call("f")], ANY), record(("x", name("a"), read("b")), ("y", name("b"))),
                     record(("x", name("a"), number(1)), ("y", name("a"))), row([name("a"), read("r")], rest="r"),
                     record(("x", ANY, call("f")), ("y", row([ANY, call("g")])))):
            for pattern in (soon(part), late(part), steps(taken(part)), steps(cases(part))):
                self.assertIs(orders_alike(pattern), False, part)
        # Both fail, but at another place; as cases they fail at the same one.
        part = row([row(), number(1)], row())
        self.assertEqual((orders_alike(soon(part)), orders_alike(steps(cases(part)))), (False, True))

    def test_words_for_what_lacks(self):
        for part in (ANY, row(name("a")), record(("x", row(ANY)), rest="r"), row([ANY, number(1)])):
            for pattern in (soon(part), late(part), soon(part, "nothing"), steps(taken(part))):
                self.assertIs(lacks_alike(pattern), True)
        for part in (row([name("a"), number(1)]), row([ANY, call("f")]), record(("x", row(), number(1)))):
            for pattern in (soon(part), late(part), late(part, "nothing"), steps(taken(part))):
                self.assertIs(lacks_alike(pattern), False)


class UnboundTest(CompareCase):
    def test_patterns(self):
        part = record(("x", name("a"), read("b")), ("y", name("b")))
        self.assertEqual((unbound(soon(part)), unbound(late(part))), (["b"], []))
        for order in ORDERS:
            self.assertEqual(unbound(Pattern(row([name("a"), call("f", read("b"), read("a"))]), order, "absent")),
                             ["b"])
            self.assertEqual(unbound(Pattern(row([name("a"), read("a")]), order, "absent")), ["a"])
            self.assertEqual(unbound(Pattern(row([ANY, read("c")], [ANY, read("b")]), order, "absent")), ["b", "c"])
            self.assertEqual(unbound(Pattern(row(name("a"), [ANY, read("a")]), order, "absent")), [])
        self.assertEqual((unbound(soon(row([ANY, read("r")], rest="r"))), unbound(late(row([ANY, read("r")], rest="r")))),
                         (["r"], []))

    def test_names_that_some_way_alone_binds(self):
        # The row that lacks its first item lacks the second one, too.
        self.assertEqual(unbound(soon(row([name("a"), number(1)], [ANY, read("a")]))), [])
        program = steps(cases(row(name("a")), ANY), put("b", read("a")))
        self.assertEqual(unbound(program), ["a"])
        self.assertEqual(unbound(steps(cases(row(name("a")), name("a")), put("b", read("a")))), [])

    def test_steps(self):
        self.assertEqual(unbound(steps(taken(ANY, "q"))), ["q"])
        self.assertEqual(unbound(steps(cases(at="q"))), ["q"])
        self.assertEqual(unbound(steps(put("a", call("f", number(1), read("q"))))), ["q"])
        self.assertEqual(unbound(steps(put("a", number(1)), taken(row(), "a"), taken(ANY, "q"))), [])
        self.assertEqual(unbound(steps(taken(ANY, "p"), taken(ANY, "q"))), ["p"])

    def test_cases_that_fail_then(self):
        part = row([ANY, read("b")])
        self.assertEqual(unbound(steps(cases(part, ANY))), ["b"])
        self.assertEqual(unbound(steps(cases(ANY, part))), [])
        self.assertEqual(unbound(steps(cases(row(name("b")), part))), ["b"])
        self.assertEqual(unbound(steps(cases(row([name("b"), number(1)]), part))), [])
        # What a failed case bound is lost.
        self.assertEqual(unbound(steps(cases(record(("x", name("b")), ("y", row())), record(("z", ANY, read("b")))))),
                         ["b"])
        self.assertEqual(unbound(steps(put("b", number(1)), cases(part, ANY))), [])

    def test_results(self):
        program = steps(put("a", call("f")), cases(row([ANY, read("b")]), record(("x", ANY, read("c"))), at="a"))
        self.assertEqual(unbound(program), ["b", "c"])


class IdleTest(CompareCase):
    def test_none(self):
        for pattern in (soon(TWO), soon(ANY), late(row([row([ANY, number(1)]), call("f")])), steps()):
            self.assertEqual(idle(pattern), [])

    def test_behind_what_always_fails(self):
        # A default of an item behind one that lacks without default is never begun.
        self.assertEqual(idle(soon(row(ANY, [ANY, number(1)]))), [])
        self.assertEqual(idle(soon(row([row(), number(1)], [ANY, number(2)]))), [])
        steps_ahead = [put("a", number(1)), taken(row([ANY, number(1)], [ANY, number(2)]), "a")]
        self.assertEqual(idle(steps(*steps_ahead)), [0, 1])

    def test_what_lacks_lacks_all_behind(self):
        # Where the first item lacks, the part fails; the second one lacks only where the first is there.
        self.assertEqual(idle(soon(row([ANY, read("a")], [ANY, number(2)]))), [])
        program = steps(taken(row(ANY, ANY)), taken(row([ANY, number(1)], [ANY, number(2)], [ANY, number(3)])))
        self.assertEqual(idle(program), [0, 1])
        self.assertEqual(idle(Program(program.steps, "late", "nothing")), [])

    def test_numbers_in_the_sequence_of_the_text(self):
        # 0 stands outside of 1 and 2, 3 behind them; 1 and 2 are within a part that takes a number alone.
        inner = row([ANY, number(1)], [ANY, number(2)])
        ahead = taken(record(("x", ANY)))
        program = steps(ahead, cases(record(("x", ANY, number(0)), ("y", inner, number(9)), ("z", ANY, number(3)))))
        self.assertEqual(idle(program), [0])
        program = steps(put("n", number(1)), cases(row([inner, number(0)]), record(("x", ANY, number(3))), at="n"),
                        taken(row([ANY, number(4)])))
        self.assertEqual(idle(program), [0, 1, 2, 3, 4])
        program = steps(taken(row([row([ANY, number(1)]), number(0)], ANY)), taken(row([ANY, number(2)])))
        self.assertEqual(idle(program), [2])
        self.assertEqual(idle(late(row([inner, number(0)], [ANY, number(3)]))), [])

    def test_a_number_is_taken_by_the_part_of_a_default_alone(self):
        # The default 0 gives a number, which is no row, so the default 1 is begun for items that are there alone.
        part = record(("x", row([ANY, number(1)]), number(0)))
        self.assertEqual(idle(soon(part)), [])
        program = steps(taken(record(("x", ANY, number(1)), rest="r")), taken(record(("x", part, number(5))), "r"))
        self.assertEqual(idle(program), [2, 3])

    def test_terms_of_set_are_no_defaults(self):
        program = steps(put("a", call("f")), put("b", number(1)), taken(row([ANY, read("a")])))
        self.assertEqual(idle(program), [])
        program = steps(put("a", read("q")), put("b", call("f")), taken(row([ANY, read("a")], [ANY, number(1)])))
        self.assertEqual(idle(program), [0, 1])

    def test_late_defaults_behind_a_failure(self):
        part = row([ANY, call("f")], ANY)
        self.assertEqual((idle(soon(part)), idle(late(part))), ([], [0]))
        self.assertEqual((idle(soon(part, "nothing")), idle(late(part, "nothing"))), ([], []))


class ChangePlacesTest(CompareCase):
    def test_fields_that_may_change_places(self):
        for part in (record(("x", name("a"), number(1)), ("y", name("b"), number(2))),
                     record(("x", ANY, number(1)), ("y", ANY), rest="r"),
                     record(("x", name("a"), number(1)), ("y", ANY, number(2)), rest="a")):
            for order in ORDERS:
                for lacks in LACKS:
                    self.assertIs(may_change_places(Pattern(part, order, lacks), 0), True)

    def test_fields_that_may_not(self):
        for part in (TWO, record(("x", ANY), ("y", ANY)), record(("x", name("a"), number(1)), ("y", name("a"), number(2))),
                     record(("x", name("a"), number(1)), ("y", name("b"), read("a"))),
                     record(("x", row(), number(1)), ("y", row(), number(2)))):
            for order in ORDERS:
                self.assertIs(may_change_places(Pattern(part, order, "absent"), 0), False, part)

    def test_order(self):
        # Late defaults are worked out behind the other field, in whatever sequence these stand.
        part = record(("x", name("a"), read("b")), ("y", name("b")))
        self.assertFalse(may_change_places(soon(part), 0))
        self.assertTrue(may_change_places(late(part), 0))

    def test_the_field_and_the_next_one(self):
        part = record(("x", name("a"), number(1)), ("y", name("b"), number(1)), ("z", name("c"), call("f", read("b"))))
        self.assertEqual([may_change_places(soon(part), index) for index in range(2)], [True, False])
        self.assertTrue(may_change_places(index=0, pattern=soon(part)))

    def test_errors(self):
        for part in (ANY, name("a"), row(), row(record(("x", ANY), ("y", ANY)), ANY)):
            for index in (0, 9, -1):
                caught = self.check_error(InvalidPart, part, may_change_places, soon(part), index)
                self.check_new(caught.value, part)
        for index in (-999, -2, -1, 1, 2, 3):
            self.check_error(UnknownPlace, index, may_change_places, soon(TWO), index)
        for part in (record(), record(("x", ANY))):
            for index in (-1, 0, 1):
                self.check_error(UnknownPlace, index, may_change_places, late(part), index)

    def test_the_pattern_stays(self):
        pattern = soon(TWO)
        may_change_places(pattern, 0)
        self.assertEqual(pattern, soon(TWO))


class FailedTest(CompareCase):
    def test_ends_of_partings_are_those_of_take(self):
        one, other = soon(row(row())), soon(row(record()))
        value, results = parting(one, other)
        self.assertIn(failed(item(VALUE, 0), "kind"), (take(one, value, results)[1], take(other, value, results)[1]))


if __name__ == "__main__":
    unittest.main()

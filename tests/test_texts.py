"""Promises [2], [5], [11] and the interface of `texts`."""

import unittest

from partedvalues.patterns import Pattern, Program
from partedvalues.texts import show_pattern, show_program
from tests.shapes import ANY, LACKS, ORDERS, ShapeCase, call, great_part, name, number, read, record, row
from tests.test_compare import cases, late, put, soon, steps, taken


def shown(part):
    text = show_pattern(soon(part))
    assert text.startswith("soon absent ")
    return text[len("soon absent "):]


def shown_steps(*told):
    text = show_program(steps(*told))
    assert text.startswith("soon absent:")
    return text[len("soon absent:"):]


class ShowPatternTest(ShapeCase):
    def test_rules(self):
        for order in ORDERS:
            for lacks in LACKS:
                self.assertEqual(show_pattern(Pattern(ANY, order, lacks)), f"{order} {lacks} _")
                self.assertEqual(show_pattern(pattern=Pattern(name("a"), order, lacks)), f"{order} {lacks} a")

    def test_parts(self):
        for part, text in ((ANY, "_"), (name("a"), "a"), (name("abcdefgh"), "abcdefgh"), (row(), "[]"),
                           (record(), "{}"), (row(ANY), "[_]"), (row(name("a"), ANY, row()), "[a, _, []]"),
                           (record(("x", ANY)), "{x: _}"), (record(("x", ANY), ("y", record())), "{x: _, y: {}}"),
                           (record(("y", ANY), ("x", ANY)), "{y: _, x: _}")):
            self.assertEqual(shown(part), text)

    def test_rests(self):
        for part, text in ((row(rest="a"), "[*a]"), (row(ANY, rest="a"), "[_, *a]"),
                           (record(rest="a"), "{**a}"), (record(("x", ANY), rest="a"), "{x: _, **a}"),
                           (row(row(rest="b"), record(rest="c"), rest="a"), "[[*b], {**c}, *a]")):
            self.assertEqual(shown(part), text)

    def test_defaults(self):
        for default, text in ((read("b"), "b"), (number(0), "0"), (number(-7), "-7"), (number(999), "999"),
                              (number(-999), "-999"), (call("f"), "f()"), (call("f", read("b")), "f(b)"),
                              (call("f", number(1), call("g"), read("b")), "f(1, g(), b)"),
                              (call("f", call("f", call("f", number(-1)))), "f(f(f(-1)))")):
            self.assertEqual(shown(row([ANY, default])), f"[_ = {text}]")
            self.assertEqual(shown(record(("x", row(), default))), f"{{x: [] = {text}}}")
            self.assertEqual(shown(row(ANY, [row([name("a"), default], rest="r"), default])),
                             f"[_, [a = {text}, *r] = {text}]")

    def test_words_of_the_texts_as_names(self):
        words = ("take", "set", "cases", "soon", "late", "absent", "nothing")
        part = record(*[(word, name(word), call(word, read(word))) for word in words], rest="take")
        self.assertEqual(shown(part), "{" + ", ".join(f"{word}: {word} = {word}({word})" for word in words)
                         + ", **take}")
        self.assertEqual(shown_steps(("take", "take", name("take")), put("set", read("set")),
                                     cases(name("cases"), name("take"), at="cases")),
                         " take take take; set set = set; cases cases | cases | take")


class ShowProgramTest(ShapeCase):
    def test_no_steps(self):
        for order in ORDERS:
            for lacks in LACKS:
                self.assertEqual(show_program(Program([], order, lacks)), f"{order} {lacks}:")

    def test_steps(self):
        for step, text in ((taken(ANY), "take - _"), (taken(ANY, "a"), "take a _"),
                           (taken(row(), "take"), "take take []"),
                           (put("a", read("b")), "set a = b"), (put("a", number(-3)), "set a = -3"),
                           (put("a", call("f", number(1), read("a"))), "set a = f(1, a)"),
                           (cases(), "cases -"), (cases(at="a"), "cases a"), (cases(ANY), "cases - | _"),
                           (cases(row([ANY, read("b")]), record(rest="r"), ANY, at="a"),
                            "cases a | [_ = b] | {**r} | _")):
            self.assertEqual(shown_steps(step), " " + text)
            self.assertEqual(shown_steps(step, cases(), step), f" {text}; cases -; {text}")
            program = Program([step, step], "late", "nothing")
            self.assertEqual(show_program(program=program), f"late nothing: {text}; {text}")

    def test_nothing_changes(self):
        pattern, program = late(great_part()), steps(taken(great_part()), cases(great_part()))
        again = Pattern(pattern.part, "late", "absent"), steps(*program.steps)
        for _ in range(2):
            self.assertEqual(show_pattern(pattern), show_pattern(again[0]))
            self.assertEqual(show_program(program), show_program(again[1]))
        self.assertEqual((pattern, program), again)

    def test_greater_numbers(self):
        self.assertEqual(shown(row([ANY, number(12345)])), "[_ = 12345]")

    def test_the_greatest_pattern(self):
        text = shown(great_part())
        self.assertEqual((text.count("["), text.count("{"), text.count("_")), (22, 1, 19))
        self.assertTrue(text.startswith("[{a: a = a(), b: b = b(), "))
        self.assertTrue(text.endswith("_ = 999, *more]"))


if __name__ == "__main__":
    unittest.main()

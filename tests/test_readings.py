"""Promises [2], [3], [5], [11] and the interface of `readings`."""

import itertools
import unittest

from partedvalues.errors import Unreadable
from partedvalues.patterns import Pattern, Program
from partedvalues.readings import read_pattern, read_program
from partedvalues.texts import show_pattern, show_program
from tests.drawn import Drawer
from tests.grammar import Texts, is_pattern, is_program
from tests.shapes import ANY, LACKS, ORDERS, ShapeCase, call, great_part, name, number, read, record, row
from tests.test_compare import cases, late, put, soon, steps, taken

# All signs that stand in texts, and some that do not.
SIGNS = "abz_[]{}(),: =*-|;0123" + "A#'./"
BAD_STEPS = ("take", "take ", "take -", "take - ", "take _", "take - _ ", "take - _;", "take - _; ", "take -  _",
             "take- _", "take -_", "takes - _", "Take - _", "take - _, take - _", "take - _;take - _",
             "take - _;  take - _", "take - _ ; take - _", "; take - _", " take - _", "set", "set a", "set a =",
             "set a = ", "set a 1", "set a= 1", "set a =1", "set a=1", "set a = []", "set a = _", "set a = 1 ",
             "set a = 1;", "set a = 1 = 2", "case - | _", "cases", "cases ", "cases - ", "cases - |", "cases - | ",
             "cases - _", "cases -| _", "cases - |_", "cases -  | _", "cases - |  _", "cases - | _ ", "cases - | _|",
             "cases - | _ |", "cases - | _ | ", "cases - | | _", "cases - | _; | _", "cases | _", "cases - | _, _",
             "cases - || _", "cases - | - _", "cases - | a = 1", "take - | _", "_", "[]", "a", "take - _ | _",
             "set a | 1", "set a = f() | _", "take a = 1")
WORDS = ("take", "set", "cases", "soon", "late", "absent", "nothing")


class ReadingCase(ShapeCase):
    def check_pattern(self, pattern):
        told = read_pattern(show_pattern(pattern))
        self.assertIs(type(told), Pattern)
        self.assertEqual(told, pattern)
        self.assertEqual((told.part, told.order, told.lacks), (pattern.part, pattern.order, pattern.lacks))

    def check_program(self, program):
        told = read_program(show_program(program))
        self.assertIs(type(told), Program)
        self.assertEqual(told, program)
        self.assertEqual((told.steps, told.order, told.lacks), (program.steps, program.order, program.lacks))

    def check_unreadable(self, *texts):
        for text in texts:
            self.check_error(Unreadable, text, read_pattern, text)
            self.check_error(Unreadable, text, read_program, text)

    def check_bad_parts(self, *texts):
        """Check that these are no parts, in a pattern, an item, a field, a step and a case."""
        for text in texts:
            self.check_unreadable(f"soon absent {text}", f"soon absent: take - {text}", f"late nothing [{text}]",
                                  f"late nothing [{text}, _]", f"soon absent {{x: {text}}}",
                                  f"soon absent: cases - | _ | {text}", f"soon absent: cases - | {text} | _")

    def check_bad_terms(self, *texts):
        """Check that these are no terms, in a default, in a call, and in a step."""
        for text in texts:
            self.check_unreadable(f"soon absent [_ = {text}]", f"soon absent {{x: _ = {text}, **r}}",
                                  f"soon absent [_ = f({text})]", f"soon absent [_ = f(a, {text}, a)]",
                                  f"soon absent: set a = {text}")


class BothWaysTest(ReadingCase):
    def test_parts(self):
        for part in (ANY, name("a"), name("abcdefgh"), row(), record(), row(ANY, name("b"), rest="c"),
                     record(("x", ANY, read("a")), ("y", row(), number(0)), rest="c"), row(rest="a"), record(rest="a"),
                     row([row([row(), call("f")]), number(-3)], [ANY, call("f", call("g", number(10)), read("a"))])):
            for order in ORDERS:
                for lacks in LACKS:
                    self.check_pattern(Pattern(part, order, lacks))
                    self.check_program(Program([("take", None, part)], order, lacks))

    def test_steps(self):
        for program in (steps(), steps(taken(ANY)), steps(taken(ANY, "a")), steps(cases()), steps(cases(at="a")),
                        steps(cases(), cases(ANY), cases(at="b")), steps(put("a", number(0)), put("b", read("a"))),
                        steps(cases(row(), record(), ANY, at="a"), put("a", call("f", call("g"), number(-1))))):
            for order in ORDERS:
                for lacks in LACKS:
                    self.check_program(Program(program.steps, order, lacks))

    def test_words_of_the_texts_as_names(self):
        for word in WORDS:
            part = record((word, name(word), call(word, read(word))), ("x", row([ANY, read(word)], rest=word)),
                          rest=word)
            self.check_pattern(soon(part))
            self.check_pattern(late(name(word), "nothing"))
            self.check_program(steps(taken(part, word), put(word, read(word)), cases(name(word), part, at=word)))
            self.check_program(steps(taken(name(word), word), put(word, call(word))))

    def test_numbers(self):
        for worth in (0, 1, 9, 10, 99, 100, 999, 1000, 9999):
            for sign in (1, -1):
                self.check_pattern(soon(row([ANY, number(sign * worth)])))
                self.check_program(steps(put("a", call("f", number(sign * worth)))))

    def test_drawn_ones(self):
        drawer = Drawer(1, "abc", ("x", "y", "take", "set"))
        for _ in range(300):
            self.check_pattern(drawer.pattern())
            self.check_program(drawer.program())

    def test_the_greatest_ones(self):
        for order in ORDERS:
            for lacks in LACKS:
                self.check_pattern(Pattern(great_part(), order, lacks))
        self.check_program(steps(taken(great_part()), *[put("a", number(1))] * 23))
        self.check_program(steps(*[cases(*[name("a")] * 24)] * 24))

    def test_greater_ones(self):
        # Texts may be those of greater patterns, up to brackets that are 20 deep.
        deep, term, inner = name("a"), read("b"), record(rest="z")
        for at in range(20):
            deep = row([deep, number(1)], rest="r") if at % 2 else record(("x", deep), rest="r")
            term = call("f", term, number(-9999)) if at < 19 else term
            inner = row(inner) if at < 19 else inner
        for part in (deep, row([ANY, term]), inner, row(*[[ANY, number(-99)]] * 200), row(*[name("abcdefgh")] * 290)):
            self.check_pattern(soon(part))
            self.check_program(steps(taken(part)))
        self.check_program(steps(*[cases()] * 300))
        self.assertGreater(len(show_program(steps(*[cases()] * 320))), 2800)

    def test_by_name(self):
        self.assertEqual(read_pattern(text="late absent _"), late(ANY))
        self.assertEqual(read_program(text="soon absent: take a _"), steps(taken(ANY, "a")))

    def test_read_again(self):
        one, other = [read_pattern("soon nothing [a = f(b), *r]") for _ in range(2)]
        self.assertEqual(one, other)
        one.part[1].clear()
        self.assertEqual((one, one.part), (other, row([name("a"), call("f", read("b"))], rest="r")))
        self.check_new(read_program("soon absent: cases - | [] | {}; take - [[]]").steps)


class UnreadableTest(ReadingCase):
    def test_rules(self):
        for text in ("", " ", "soon", "soon ", "soon absent", "soon  absent _", " soon absent _", "soon absent  _",
                     "soon absent _ ", "soonabsent _", "soon absent_", "sooner absent _", "Soon absent _",
                     "absent soon _", "late nothing", "late nothings _", "late late _", "_", "[]", "soon absent;",
                     " late nothing:", "late nothing: ", "late nothing :", "late nothing::", "late nothing:;"):
            self.check_unreadable(text)

    def test_each_reads_its_own(self):
        self.check_error(Unreadable, "soon absent _", read_program, "soon absent _")
        self.check_error(Unreadable, "soon absent take", read_program, "soon absent take")
        self.check_error(Unreadable, "soon absent:", read_pattern, "soon absent:")
        self.check_error(Unreadable, "soon absent: take - _", read_pattern, "soon absent: take - _")

    def test_names(self):
        self.check_bad_parts("abcdefghi", "A", "aB", "a1", "1a", "a b", "-", "a_", "__", "_a", "a-b", "a'", "#")
        self.check_bad_parts("[*]", "[*abcdefghi]", "[*A]", "[*_]", "[*1]", "{**}", "{**abcdefghi}", "{**_}", "{: _}",
                             "{abcdefghi: _}", "{X: _}", "{_: _}", "{1: _}")
        self.check_bad_terms("abcdefghi", "A", "a b", "_", "abcdefghi()", "A()", "1()", "()", "-()", "_()")
        for text in ("set - = 1", "set A = 1", "set  = 1", "set abcdefghi = 1", "take A _", "take  _", "take _ _",
                     "cases A", "cases abcdefghi | _", "cases  | _", "take abcdefghi _"):
            self.check_unreadable(f"soon absent: {text}")

    def test_numbers(self):
        self.check_bad_terms("00", "01", "007", "-0", "-01", "--1", "+1", "1-", "-", "- 1", "1 ", "1.0", "1a", "10000",
                             "-10000", "00000", "12345678901234567890", "1,", "1_0", "0x1", "a1", "1(1)")
        self.check_bad_parts("1", "-1", "0")

    def test_rows_and_records(self):
        self.check_bad_parts("[", "]", "[ ]", "[_", "_]", "[_,]", "[,_]", "[_,_]", "[_ , _]", "[_,  _]", "[, _]",
                             "[_, ]", "[_ _]", "[_; _]", "[]]", "[[]", "(_)", "[}", "{]", "[**a]", "[* a]", "[*a, _]",
                             "[*a, *b]", "[*a = 1]", "[_ *a]", "[_,*a]", "[x: _]", "[*[]]", "[*_]")
        self.check_bad_parts("{", "}", "{ }", "{x}", "{x:}", "{x: }", "{x:_}", "{x : _}", "{x:  _}", "{x: _,}",
                             "{x: _ ,y: _}", "{x: _,y: _}", "{x: _, }", "{, x: _}", "{x: _; y: _}", "{x: _", "x: _",
                             "{*a}", "{** a}", "{**a, x: _}", "{**a, **b}", "{x: _ **a}", "{_}", "{x: *a}", "{x: **a}",
                             "{**a = 1}", "{x: _, **}", "{x: _, *a}", "{x = 1}", "{x = 1: _}")

    def test_double_fields(self):
        self.check_bad_parts("{x: _, x: _}", "{x: _, y: _, x: a}", "{x: _, x: _ = 1, **r}", "{y: {x: _, x: _}}",
                             "[[{x: _, y: _, y: _}]]")
        self.check_pattern(soon(record(("x", record(("x", ANY), ("y", ANY))), ("y", ANY))))

    def test_defaults(self):
        self.check_bad_parts("[_ =1]", "[_= 1]", "[_=1]", "[_  = 1]", "[_ =  1]", "[_ = ]", "[_ =]", "[_ = 1 = 2]",
                             "[= 1]", "[ = 1]", "[_ = []]", "[_ = {}]", "[_ = _]", "[_ == 1]", "[_: 1]",
                             "{x: _ =1}", "{x: _= 1}", "{x: = 1}", "{x:  = 1}", "{x: _ = 1 = 2}")
        self.check_unreadable("soon absent _ = 1", "soon absent a = 1", "soon absent [] = a",
                              "soon absent: take - _ = 1", "soon absent: take - a = 1", "soon absent: cases - | {} = 1")
        self.check_bad_terms("f(", "f)", "f())", "f(()", "f( )", "f(1", "f(,)", "f(1,)", "f(1,2)", "f(1 , 2)", "f(1, )",
                             "f(1,  2)", "f( 1)", "f(1 )", "f (1)", "f(1; 2)", "f(1 2)", "f(_)", "f([])", "f(x: 1)",
                             "f(*a)", "f(a = 1)", "f()()", "f()g()", "f[1]", "f{}", "[1]", "f(1)2")

    def test_steps(self):
        for text in BAD_STEPS:
            self.check_unreadable(f"soon absent: {text}")
            self.check_unreadable(f"soon absent: take - _; {text}")
            self.check_unreadable(f"soon absent: {text}; take - _".replace("; ;", ";;"))
        self.check_unreadable("soon absent:take - _", "soon absent take - _", "soon absent:  take - _",
                              "soon absent; take - _", "soon absent: take - _: take - _")

    def test_the_value_of_the_error(self):
        for text in ("", "soon absent [", "x" * 3000, "soon absent [" + "_, " * 990 + "_",
                     "soon absent " + "[" * 20 + "]" * 19, "soon absent [_ = " + "f(" * 19 + ")" * 18 + "]",
                     "soon absent: " + "cases -; " * 300, "~" * 3000, " " * 3000):
            self.check_unreadable(text)


class SignsTest(ReadingCase):
    """Texts with one sign more, less or other."""

    def check_near(self, text, read_text, show_text, is_text, signs=SIGNS):
        """Check all texts that one sign parts from a text; return how many of them can be read."""
        readable = 0
        near = [text[:at] + sign + text[end:] for at in range(len(text) + 1) for end in (at, at + 1)
                for sign in ("", *signs)]
        for each in near:
            try:
                told = read_text(each)
            except Unreadable as error:
                self.assertEqual(error.value, each)
                self.assertFalse(is_text(each), each)
                continue
            self.assertEqual(show_text(told), each)
            self.assertTrue(is_text(each), each)
            readable += 1
        return readable

    def test_patterns(self):
        readable = 0
        for part in (row([name("ab"), number(-10)], ANY, rest="bz"),
                     record(("a", ANY), ("b", name("z"), call("b")), rest="a"),
                     row([record(("za", row()), ("z", ANY)), call("a", read("b"), number(0))])):
            readable += self.check_near(show_pattern(soon(part)), read_pattern, show_pattern, is_pattern)
        self.assertGreater(readable, 300)

    def test_programs(self):
        readable = 0
        for program in (steps(), steps(taken(row(ANY), "a"), put("b", number(12)), cases(ANY, name("z"))),
                        steps(cases(), put("set", call("take", read("cases"))), taken(name("take")))):
            readable += self.check_near(show_program(program), read_program, show_program, is_program)
        self.assertGreater(readable, 200)

    def test_drawn_ones(self):
        drawer = Drawer(2, "abz", ("a", "b"))
        for _ in range(25):
            self.check_near(show_pattern(drawer.pattern()), read_pattern, show_pattern, is_pattern, "a]} ,=1")
            self.check_near(show_program(drawer.program()), read_program, show_program, is_program, "a_|; -0")

    def test_signs_that_change_places(self):
        drawer = Drawer(3, "abz", ("a", "b"))
        for _ in range(150):
            text = show_program(drawer.program())
            for at in range(len(text) - 1):
                each = text[:at] + text[at + 1] + text[at] + text[at + 2:]
                try:
                    self.assertEqual(show_program(read_program(each)), each)
                    self.assertTrue(is_program(each), each)
                except Unreadable:
                    self.assertFalse(is_program(each), each)

    def test_all_short_texts(self):
        texts, found = Texts("a", "01"), {}
        for length in range(1, 5):
            for text in texts.all_of("part", length):
                found[text] = True
        for length in range(5):
            for signs in itertools.product("a_[]{}(), =*:-01", repeat=length):
                text = "".join(signs)
                try:
                    told = show_pattern(read_pattern("soon absent " + text))
                    self.assertEqual(told, "soon absent " + text)
                    self.assertIn(text, found)
                except Unreadable:
                    self.assertNotIn(text, found)

    def test_all_longer_texts_that_are_some(self):
        texts = Texts("a", "01")
        for length in range(1, 12):
            for text in texts.all_of("part", length):
                self.assertTrue(is_pattern("late nothing " + text), text)
                self.assertEqual(show_pattern(read_pattern("late nothing " + text)), "late nothing " + text)
            for text in texts.all_of("term", length):
                self.assertEqual(show_program(read_program("soon nothing: set a = " + text)),
                                 "soon nothing: set a = " + text)


if __name__ == "__main__":
    unittest.main()

"""Patterns and programs, read from their texts."""

from partedvalues.checks import LETTERS, LONGEST_NAME
from partedvalues.errors import Unreadable
from partedvalues.patterns import Pattern, Program
from partedvalues.texts import SIGNS

DIGITS = "0123456789"
MOST_DIGITS = 4


def read_pattern(text):
    """Return the pattern with a text; raise Unreadable if none has it."""
    reader = Reader(text)
    order, lacks = reader.read_rules()
    reader.expect(" ")
    part = reader.read_part()
    reader.expect_end()
    return Pattern(part, order, lacks)


def read_program(text):
    """Return the program with a text; raise Unreadable if none has it."""
    reader = Reader(text)
    order, lacks = reader.read_rules()
    reader.expect(":")
    steps = reader.read_steps()
    reader.expect_end()
    return Program(steps, order, lacks)


class Reader:
    """A text that is read from the left; raises Unreadable where something else would have to stand."""

    def __init__(self, text):
        self.text = text
        self.at = 0

    def skips(self, sign):
        """Pass over some signs if they come next; tell whether they did."""
        if not self.text.startswith(sign, self.at):
            return False
        self.at += len(sign)
        return True

    def expect(self, sign):
        """Pass over some signs, which have to come next."""
        if not self.skips(sign):
            raise Unreadable(self.text)

    def expect_end(self):
        """Check that nothing comes behind."""
        if self.at < len(self.text):
            raise Unreadable(self.text)

    def read_one(self, words):
        """Return the one of some words that comes next."""
        for word in words:
            if self.skips(word):
                return word
        raise Unreadable(self.text)

    def read_run(self, signs, most):
        """Return all of some signs that come next, which have to be at least one, and at most so many."""
        begun = self.at
        while self.at < len(self.text) and self.text[self.at] in signs:
            self.at += 1
        if not 1 <= self.at - begun <= most:
            raise Unreadable(self.text)
        return self.text[begun:self.at]

    def read_rules(self):
        """Return a tuple of the order and the word for what lacks."""
        order = self.read_one(["soon", "late"])
        self.expect(" ")
        return order, self.read_one(["absent", "nothing"])

    def read_steps(self):
        """Return the list of the steps that come next, perhaps the empty one."""
        steps = []
        more = self.skips(" ")
        while more:
            steps.append(self.read_step())
            more = self.skips("; ")
        return steps

    def read_step(self):
        """Return the step that comes next."""
        word = self.read_one(["take", "set", "cases"])
        self.expect(" ")
        if word == "set":
            name = self.read_name()
            self.expect(" = ")
            return (word, name, self.read_term())
        name = None if self.skips("-") else self.read_name()
        if word == "cases":
            return (word, name, self.read_cases())
        self.expect(" ")
        return (word, name, self.read_part())

    def read_cases(self):
        """Return the list of the parts that come next, each behind a stroke."""
        parts = []
        while self.skips(" | "):
            parts.append(self.read_part())
        return parts

    def read_name(self):
        """Return the name that comes next."""
        return self.read_run(LETTERS, LONGEST_NAME)

    def read_part(self):
        """Return the part that comes next."""
        if self.skips("_"):
            return ("any",)
        for word in SIGNS:
            if self.skips(SIGNS[word][0]):
                return self.read_entries(word)
        return ("name", self.read_name())

    def read_entries(self, word):
        """Return the row or record part whose opening bracket stands ahead."""
        _, star, closing = SIGNS[word]
        entries = []
        rest = None
        more = not self.skips(closing)
        while more:
            if self.skips(star):
                rest = self.read_name()
                self.expect(closing)
                more = False
            else:
                entries.append(self.read_entry(word))
                more = self.goes_on(closing)
        if word == "record":
            self.check_fields(entries)
        return (word, entries, rest)

    def check_fields(self, entries):
        """Check that no field stands twice, as no record part has such fields."""
        if len({entry[0] for entry in entries}) < len(entries):
            raise Unreadable(self.text)

    def goes_on(self, closing):
        """Pass over a comma, or else over a closing bracket; tell whether it was a comma."""
        if self.skips(", "):
            return True
        self.expect(closing)
        return False

    def read_entry(self, word):
        """Return the item or field that comes next, with its default."""
        field = ()
        if word == "record":
            field = (self.read_name(),)
            self.expect(": ")
        part = self.read_part()
        default = self.read_term() if self.skips(" = ") else None
        return (*field, part, default)

    def read_term(self):
        """Return the term that comes next."""
        minus = "-" if self.skips("-") else ""
        if minus or self.sees(DIGITS):
            return ("number", self.read_number(minus))
        name = self.read_name()
        return ("call", name, self.read_terms()) if self.skips("(") else ("read", name)

    def sees(self, signs):
        """Tell whether one of some signs comes next."""
        return self.at < len(self.text) and self.text[self.at] in signs

    def read_number(self, minus):
        """Return the integer whose digits come next, negative behind a minus."""
        digits = self.read_run(DIGITS, MOST_DIGITS)
        if digits[0] == "0" and minus + digits != "0":
            raise Unreadable(self.text)
        return int(minus + digits)

    def read_terms(self):
        """Return the list of the terms within the brackets whose opening one stands ahead."""
        terms = []
        more = not self.skips(")")
        while more:
            terms.append(self.read_term())
            more = self.goes_on(")")
        return terms

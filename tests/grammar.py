"""Two other ways to tell which texts patterns and programs have, to hold the readings against.

One strikes out, from the inside out, all that has the form of a term or a
part; the other one makes all texts up to a length.
"""

import re

WORDS = "(soon|late) (absent|nothing)"
NAME = "[a-z]{1,8}"
TERM = r"(?:(?<![a-z])[a-z]{1,8}(?![a-z(])|-?[1-9][0-9]{0,3}(?![0-9])|0(?![0-9])|#)"
CALL = re.compile(rf"(?<![a-z0-9#-]){NAME}\((?:{TERM}(?:, {TERM})*)?\)")
DEFAULT = f"(?: = {TERM})?"
PART = f"(?:_|(?<![a-z]){NAME}(?![a-z]))"
ITEM = f"{PART}{DEFAULT}"
ROW = re.compile(rf"\[(?:{ITEM}(?:, {ITEM})*(?:, \*{NAME})?|\*{NAME})?\]")
FIELD = f"({NAME}): {PART}{DEFAULT}"
PLAIN_FIELD = FIELD.replace("(", "(?:", 1)
RECORD = re.compile(rf"\{{(?:{PLAIN_FIELD}(?:, {PLAIN_FIELD})*(?:, \*\*{NAME})?|\*\*{NAME})?\}}")
STEP = f"(?:take (?:-|{NAME}) {PART}|set {NAME} = {TERM}|cases (?:-|{NAME})(?: \\| {PART})*)"


def struck_out(text):
    """The text with `#` for each call and `_` for each row and record; None if a field stands twice in a record."""
    if "#" in text:
        return None
    before = None
    while before != text:
        before = text
        # A call may stand behind a sign of equality, or in another call, alone.
        text = CALL.sub(lambda found: "#" if text[:found.start()].endswith((" = ", "(", ", ")) else found.group(), text)
        text = ROW.sub("_", text)
        for found in RECORD.finditer(text):
            fields = re.findall(r"(?:\{|, )([a-z]+): ", found.group())
            if len(fields) > len(set(fields)):
                return None
        text = RECORD.sub("_", text)
    return text


def is_pattern(text):
    """Whether a text is that of a pattern."""
    left = struck_out(text)
    return left is not None and re.fullmatch(f"{WORDS} {PART}", left) is not None


def is_program(text):
    """Whether a text is that of a program."""
    left = struck_out(text)
    return left is not None and re.fullmatch(f"{WORDS}:(?: {STEP}(?:; {STEP})*)?", left) is not None


class Texts:
    """All texts of a few letters and digits, by their lengths."""

    def __init__(self, letters, digits):
        self.letters, self.digits = letters, digits
        self.kept = {}

    def all_of(self, kind, length):
        if (kind, length) not in self.kept:
            self.kept[kind, length] = sorted(set(getattr(self, kind)(length))) if length > 0 else []
        return self.kept[kind, length]

    def joined(self, length, *kinds):
        """All texts of a length that are made of these kinds of texts, or of these signs, in order."""
        if not kinds:
            return [""] if length == 0 else []
        first, *others = kinds
        if first not in ("name", "term", "terms", "part", "item", "items", "field", "fields"):
            return [first + text for text in self.joined(length - len(first), *others)] if length >= len(first) else []
        return [text + behind for many in range(1, length + 1) for text in self.all_of(first, many)
                for behind in self.joined(length - many, *others)]

    def name(self, length):
        names = [""]
        for _ in range(length):
            names = [name + letter for name in names for letter in self.letters]
        return names if length <= 8 else []

    def number(self, length):
        found = [""]
        for _ in range(length):
            found = [text + digit for text in found for digit in self.digits + "-"]
        return [text for text in found if re.fullmatch("0|-?[1-9][0-9]{0,3}", text)]

    def term(self, length):
        return (self.name(length) + self.number(length) + self.joined(length, "name", "()")
                + self.joined(length, "name", "(", "terms", ")"))

    def terms(self, length):
        return self.all_of("term", length) + self.joined(length, "term", ", ", "terms")

    def part(self, length):
        return (self.name(length) + (["_"] if length == 1 else []) + (["[]", "{}"] if length == 2 else [])
                + self.joined(length, "[", "items", "]") + self.joined(length, "{", "fields", "}"))

    def item(self, length):
        return self.all_of("part", length) + self.joined(length, "part", " = ", "term")

    def items(self, length):
        return (self.all_of("item", length) + self.joined(length, "*", "name")
                + self.joined(length, "item", ", ", "items"))

    def field(self, length):
        return self.joined(length, "name", ": ", "item")

    def fields(self, length):
        # A field that stands twice needs more signs than these texts have.
        return (self.all_of("field", length) + self.joined(length, "**", "name")
                + self.joined(length, "field", ", ", "fields"))

"""Short ways to write parts, terms and takings in tests."""

import unittest

from partedvalues.patterns import Pattern, Program
from partedvalues.takes import looked, take

ORDERS = ("soon", "late")
LACKS = ("absent", "nothing")
VALUE = ("value",)


def name(word):
    return ("name", word)


ANY = ("any",)


def row(*items, rest=None):
    """A row part; an item is a part alone, or a list of a part and its default."""
    return ("row", [tuple(item) if isinstance(item, list) else (item, None) for item in items], rest)


def record(*fields, rest=None):
    """A record part; a field is a tuple (field, part) or (field, part, default)."""
    return ("record", [field if len(field) == 3 else (*field, None) for field in fields], rest)


def read(word):
    return ("read", word)


def number(worth):
    return ("number", worth)


def call(word, *terms):
    return ("call", word, list(terms))


def item(place, index):
    return ("item", place, index)


def field(place, word):
    return ("field", place, word)


def great_part():
    """A part of 70 parts, 6 deep, with 20 items, 12 fields, 30 names, 13 functions and 30 defaults."""
    letters = "abcdefghijkl"
    term = read("a")
    for _ in range(4):
        term = call("m", number(-999), term)
    fields = record(*[(letter, name(letter), call(letter)) for letter in letters], rest="others")
    chain = name("deep")
    for _ in range(5):
        chain = row(chain)
    pairs = [[row(name("p" + letter), ANY), term] for letter in letters + "mno"]
    return row(fields, chain, *pairs, [row(ANY, ANY), term], [ANY, term], [ANY, number(999)], rest="more")


def bound(**pairs):
    """The end that binds these names."""
    return ("bound", sorted(pairs.items()))


def failed(place, why):
    return ("failed", place, why)


def take_part(part, value, results=(), order="soon", lacks="absent"):
    return take(Pattern(part, order, lacks), value, list(results))


def take_steps(steps, value, results=(), order="soon", lacks="absent"):
    return take(Program(steps, order, lacks), value, list(results))


def end_of(part, value, results=(), order="soon", lacks="absent"):
    return take_part(part, value, results, order, lacks)[1]


def looks_of(part, value, results=(), order="soon", lacks="absent"):
    return looked(Pattern(part, order, lacks), value, list(results))


def looks_of_steps(steps, value, results=(), order="soon", lacks="absent"):
    return looked(Program(steps, order, lacks), value, list(results))


def lists_within(thing):
    """All lists and dicts within a thing, as often as they stand in it."""
    found = [thing] if isinstance(thing, (list, dict)) else []
    inner = thing.values() if isinstance(thing, dict) else thing
    if isinstance(thing, (list, dict, tuple)):
        for each in inner:
            found.extend(lists_within(each))
    return found


class ShapeCase(unittest.TestCase):
    """A test case that knows errors and lists."""

    def check_error(self, error, value, act, *arguments, **named):
        """Check that a call raises just this error class with this value; return the error."""
        with self.assertRaises(ValueError) as caught:
            act(*arguments, **named)
        self.assertIs(type(caught.exception), error)
        self.assertEqual(caught.exception.value, value)
        return caught.exception

    def check_new(self, thing, *others):
        """Check that each list of a thing stands in it once, and in none of the others."""
        own = [id(each) for each in lists_within(thing)]
        self.assertEqual(len(own), len(set(own)))
        for other in others:
            theirs = {id(each) for each in lists_within(other)}
            self.assertEqual([each for each in own if each in theirs], [])

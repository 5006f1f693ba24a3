"""Checks of what patterns and programs are made of, from the outside in."""

from partedvalues.copies import fresh
from partedvalues.errors import DoubleField, InvalidName, InvalidPart, InvalidRule, InvalidTerm
from partedvalues.parts import parts_of_step

LETTERS = "abcdefghijklmnopqrstuvwxyz"
LONGEST_NAME = 8
PART_SIZES = {"name": 2, "any": 1, "row": 3, "record": 3}
TERM_SIZES = {"read": 2, "number": 2, "call": 3}
STEP_SIZES = {"take": 3, "set": 3, "cases": 3}


def is_filled(thing):
    """Tell whether a thing is a tuple with something in it."""
    return isinstance(thing, tuple) and len(thing) > 0


def check_name(name):
    """Raise InvalidName unless this is one to eight letters from a to z."""
    if not isinstance(name, str) or not 1 <= len(name) <= LONGEST_NAME:
        raise InvalidName(name)
    if not all([letter in LETTERS for letter in name]):
        raise InvalidName(name)


def check_optional_name(name):
    """Raise InvalidName unless this is a name or None."""
    if name is not None:
        check_name(name)


def check_term(term):
    """Raise the first error of a term, its own ahead of those of its terms."""
    if not is_filled(term) or TERM_SIZES.get(term[0]) != len(term):
        raise InvalidTerm(fresh(term))
    if term[0] == "number":
        return
    check_name(term[1])
    if term[0] == "call":
        for inner in term[2]:
            check_term(inner)


def check_default(default):
    """Raise the first error of a default, which may be None."""
    if default is not None:
        check_term(default)


def check_part(part):
    """Raise the first error of a part, its own ahead of those within it."""
    if not is_filled(part) or PART_SIZES.get(part[0]) != len(part):
        raise InvalidPart(fresh(part))
    if part[0] == "name":
        check_name(part[1])
    elif part[0] == "row":
        check_row(part)
    elif part[0] == "record":
        check_record(part)


def check_row(part):
    """Raise the first error of a row part's rest and items."""
    check_optional_name(part[2])
    for inner, default in part[1]:
        check_part(inner)
        check_default(default)


def check_record(part):
    """Raise the first error of a record part's rest and fields."""
    check_optional_name(part[2])
    ahead = {}
    for field, inner, default in part[1]:
        check_name(field)
        if field in ahead:
            raise DoubleField(field)
        ahead[field] = True
        check_part(inner)
        check_default(default)


def check_step(step):
    """Raise the first error of a step."""
    if not is_filled(step) or STEP_SIZES.get(step[0]) != len(step):
        raise InvalidPart(fresh(step))
    if step[0] == "set":
        check_name(step[1])
        check_term(step[2])
        return
    check_optional_name(step[1])
    for part in parts_of_step(step):
        check_part(part)


def check_rules(order, lacks):
    """Raise InvalidRule for another order, then for another word for what lacks."""
    if order not in ("soon", "late"):
        raise InvalidRule(order)
    if lacks not in ("absent", "nothing"):
        raise InvalidRule(lacks)

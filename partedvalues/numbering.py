"""The numbers of the defaults in a pattern or program.

A numbered default is ("numbered", number, term). The numbers go on in the
sequence of the text, each default's ahead of those within its part.
"""

from partedvalues.parts import parts_of_step


def numbered_part(part, number):
    """Return a part with its defaults numbered from a number on, and the number behind them."""
    if part[0] not in ("row", "record"):
        return part, number
    word, entries, rest = part
    found = []
    for entry in entries:
        *ahead, inner, default = entry
        if default is not None:
            default = ("numbered", number, default)
            number += 1
        inner, number = numbered_part(inner, number)
        found.append((*ahead, inner, default))
    return (word, found, rest), number


def numbered_steps(steps):
    """Return the steps with their defaults numbered from 0 on, and how many these are."""
    found = []
    number = 0
    for step in steps:
        parts = []
        for part in parts_of_step(step):
            told, number = numbered_part(part, number)
            parts.append(told)
        found.append(with_parts(step, parts))
    return found, number


def with_parts(step, parts):
    """Return a step with other parts."""
    word, name, inner = step
    if word == "set":
        return step
    return (word, name, parts[0] if word == "take" else parts)

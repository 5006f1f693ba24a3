"""The texts of patterns and programs."""

from partedvalues.parts import entries_of

# The opening bracket of a part, what stands ahead of its rest, and its closing bracket.
SIGNS = {"row": ("[", "*", "]"), "record": ("{", "**", "}")}


def show_program(program):
    """Return the text of a program."""
    return shown_rules(program) + ":" + ";".join([" " + shown_step(step) for step in program.steps])


def show_pattern(pattern):
    """Return the text of a pattern."""
    return shown_rules(pattern) + " " + shown_part(pattern.part)


def shown_rules(pattern):
    """Return the text of the order and the word for what lacks."""
    return pattern.order + " " + pattern.lacks


def shown_step(step):
    """Return the text of a step."""
    word, name, inner = step
    if word == "set":
        return "set " + name + " = " + shown_term(inner)
    head = word + " " + ("-" if name is None else name)
    if word == "take":
        return head + " " + shown_part(inner)
    return head + "".join([" | " + shown_part(part) for part in inner])


def shown_part(part):
    """Return the text of a part."""
    if part[0] == "name":
        return part[1]
    if part[0] == "any":
        return "_"
    opening, star, closing = SIGNS[part[0]]
    texts = [shown_entry(entry) for entry in entries_of(part)]
    if part[2] is not None:
        texts.append(star + part[2])
    return opening + ", ".join(texts) + closing


def shown_entry(entry):
    """Return the text of an item or a field, with its default."""
    key, part, default = entry
    field = key + ": " if isinstance(key, str) else ""
    behind = "" if default is None else " = " + shown_term(default)
    return field + shown_part(part) + behind


def shown_term(term):
    """Return the text of a term."""
    if term[0] == "number":
        return str(term[1])
    if term[0] == "read":
        return term[1]
    return term[1] + "(" + ", ".join([shown_term(inner) for inner in term[2]]) + ")"

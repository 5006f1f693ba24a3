"""Trees of looks: those of patterns, and those that are handed in."""

from partedvalues.copies import fresh
from partedvalues.errors import InvalidAnswer, TakeEnded, UnknownPlace
from partedvalues.facts import Facts, kind_with
from partedvalues.growing import ends_within, grown, thin_tree
from partedvalues.outcomes import are_alike, outcome_of, told_outcome
from partedvalues.places import look_of, told_look
from partedvalues.takes import kind_of


def tree(pattern):
    """Return the tree of the looks of a pattern, with what it does at the ends."""
    return told_tree(grown(pattern))


def told_tree(node):
    """Return how a grown tree is told."""
    if node[0] == "end":
        taking = node[1]
        return ("end", told_outcome(taking.outcome(), taking.facts))
    return ("look", told_look(node[1]), [(answer, told_tree(inner)) for answer, inner in node[2]])


def walk(told, value, results):
    """Return what stands at the end of a tree to which a value and results lead."""
    while told[0] == "look":
        answer = answer_at(told[1], value, results)
        inner = way_with(told[2], answer)
        if inner is None:
            raise InvalidAnswer(answer)
        told = inner
    return fresh(told[1])


def answer_at(told, value, results):
    """Return the answer of a look that is told; raise TakeEnded or UnknownPlace if it has none."""
    look = look_of(told)
    found = found_at(look[1], told[1], value, results)
    if look[0] == "what":
        return kind_of(found)
    if look[0] == "none":
        return found is None
    if kind_of(found) != kind_with(look[2]):
        raise UnknownPlace(fresh(told[1]))
    return has_key(found, look[2])


def found_at(path, place, value, results):
    """Return what is at a path; raise TakeEnded, or UnknownPlace with its place, if nothing is."""
    found = value
    if path[0] != "value":
        if path[0] >= len(results):
            raise TakeEnded(path[0])
        found = results[path[0]]
    for key in path[1:]:
        if kind_of(found) != kind_with(key) or not has_key(found, key):
            raise UnknownPlace(fresh(place))
        found = found[key]
    return found


def has_key(found, key):
    """Tell whether a record has a field, or a row an item."""
    return key in found if isinstance(key, str) else key < len(found)


def way_with(ways, answer):
    """Return the tree behind an answer, or None if no way has it."""
    for told, inner in ways:
        if told == answer:
            return inner
    return None


def judge(pattern, told):
    """Tell whether a tree leads each value, with all results, to what the pattern does."""
    return leads_right(told, Facts(), thin_tree(pattern))


def leads_right(told, facts, node):
    """Tell whether a tree leads all values with some facts to what a thin tree tells."""
    if told[0] == "end":
        return is_right(outcome_of(told[1]), facts, node)
    look = look_of(told[1])
    if not facts.may_ask(look):
        return False
    for answer in facts.answers(look):
        inner = way_with(told[2], answer)
        if inner is None or not leads_right(inner, facts.with_answer(look, answer), node):
            return False
    return True


def is_right(outcome, facts, node):
    """Tell whether an outcome is, for all values with some facts, what a thin tree tells."""
    for more, other in ends_within(node, facts):
        if not are_alike(outcome, other, more):
            return False
    return True


def ends(told):
    """Return the number of the ends of a tree."""
    if told[0] == "end":
        return 1
    return sum([ends(inner) for _, inner in told[2]])

"""Whether patterns and programs do the same, for all values and all functions at once."""

from partedvalues.building import built
from partedvalues.errors import InvalidPart, UnknownPlace
from partedvalues.facts import Facts
from partedvalues.growing import ends_within, grown, takings_in, thin_tree
from partedvalues.numbering import numbered_steps
from partedvalues.outcomes import are_alike
from partedvalues.patterns import Pattern, Program, steps_of
from partedvalues.takes import looked


def unlike_ends(one, other):
    """Return a tuple (facts, outcomes) with which two thin trees end in unlike ways, or None."""
    for facts, outcome in ends_within(one, Facts()):
        for more, second in ends_within(other, facts):
            if not are_alike(outcome, second, more):
                return more, [outcome, second]
    return None


def alike(one, other):
    """Tell whether two patterns do the same for all values and functions."""
    return unlike_ends(thin_tree(one), thin_tree(other)) is None


def parting(one, other):
    """Return a tuple (value, results) with which two patterns do unlike things, or None."""
    found = unlike_ends(thin_tree(one), thin_tree(other))
    if found is None:
        return None
    facts, outcomes = found
    return built(facts, outcomes)


def first_unlike(one, other):
    """Return a list of looks with answers that lead two patterns to different ends, or None."""
    found = parting(one, other)
    if found is None:
        return None
    value, results = found
    looks = looked(one, value, results)
    ahead = [look for look, _ in looks]
    return looks + [(look, answer) for look, answer in looked(other, value, results) if look not in ahead]


def orders_alike(pattern):
    """Tell whether a pattern does the same in both orders."""
    return alike(pattern.with_order("soon"), pattern.with_order("late"))


def with_lacks(pattern, lacks):
    """Return a pattern with a word for what lacks."""
    if isinstance(pattern, Program):
        return Program(pattern.steps, pattern.order, lacks)
    return Pattern(pattern.part, pattern.order, lacks)


def lacks_alike(pattern):
    """Tell whether a pattern does the same with both words for what lacks."""
    return alike(with_lacks(pattern, "absent"), with_lacks(pattern, "nothing"))


def unbound(pattern):
    """Return the ascending list of the names that can be read while nothing is bound to them."""
    return sorted({name for taking in takings_in(grown(pattern)) for name in taking.missed})


def idle(pattern):
    """Return the ascending list of the numbers of the defaults that are never begun."""
    _, many = numbered_steps(steps_of(pattern))
    begun = {number: True for taking in takings_in(grown(pattern)) for number in taking.begun}
    return [number for number in range(many) if number not in begun]


def may_change_places(pattern, index):
    """Tell whether a record pattern does the same with a field and the next one exchanged."""
    part = pattern.part
    if part[0] != "record":
        raise InvalidPart(part)
    word, fields, rest = part
    if not 0 <= index < len(fields) - 1:
        raise UnknownPlace(index)
    fields[index], fields[index + 1] = fields[index + 1], fields[index]
    return alike(pattern, Pattern((word, fields, rest), pattern.order, pattern.lacks))

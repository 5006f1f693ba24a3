"""What takings do: tuples (calls, end), with whatever stands for the places in them."""

from partedvalues.copies import fresh
from partedvalues.places import place_of, told_place
from partedvalues.settling import settled


def with_each_place(outcome, change):
    """Return an outcome with another thing for each place of its calls and of what is bound."""
    calls, end = outcome
    changed = [(name, [change(place) for place in places]) for name, places in calls]
    if end[0] == "failed":
        return changed, end
    return changed, ("bound", [(name, change(place)) for name, place in end[1]])


def places_in(outcome):
    """Return the list of the places of an outcome's calls and of what is bound, in order."""
    calls, end = outcome
    places = [place for call in calls for place in call[1]]
    return places if end[0] == "failed" else places + [pair[1] for pair in end[1]]


def with_places(outcome, places):
    """Return an outcome with other places, which stand in a list in order."""
    calls, end = outcome
    changed = []
    at = 0
    for name, inner in calls:
        changed.append((name, places[at:at + len(inner)]))
        at += len(inner)
    if end[0] == "failed":
        return changed, end
    return changed, ("bound", [(pair[0], place) for pair, place in zip(end[1], places[at:])])


def settled_outcome(outcome, facts):
    """Return an outcome with its places as the answers tell them."""
    return with_each_place(outcome, lambda place: settled(place, facts))


def are_alike(one, other, facts):
    """Tell whether two outcomes are the same for all values and results that answer so."""
    return one == other or settled_outcome(one, facts) == settled_outcome(other, facts)


def told_outcome(outcome, facts):
    """Return how an outcome is told by the answers, in new lists."""
    return fresh(with_each_place(outcome, lambda place: told_place(settled(place, facts))))


def outcome_of(told):
    """Return the outcome that is told so, in any form of its places."""
    return with_each_place(told, place_of)

"""Values taken apart by patterns and programs."""

from partedvalues.copies import fresh
from partedvalues.errors import TakeEnded
from partedvalues.outcomes import with_each_place
from partedvalues.patterns import steps_of
from partedvalues.places import told_look
from partedvalues.taking import Taking


class Given:
    """A value and the results of calls, the source of a taking."""

    def __init__(self, value, results):
        self.whole = value
        self.results = results

    def note_call(self, number):
        """Raise TakeEnded if the call with a number has no result."""
        if number >= len(self.results):
            raise TakeEnded(number)

    def answer(self, look, answers):
        """Return the answer that a look has, which is one of these answers."""
        found = self.found_at(look[1])
        if look[0] == "what":
            return kind_of(found)
        if look[0] == "none":
            return found is None
        if isinstance(found, dict):
            return look[2] in found
        return look[2] < len(found)

    def found_at(self, path):
        """Return what stands at a path."""
        found = self.whole if path[0] == "value" else self.results[path[0]]
        for key in path[1:]:
            found = found[key]
        return found

    def value_at(self, place):
        """Return a new copy of the value at a place."""
        if place[0] == "known":
            return place[1]
        found = self.found_at(place[1])
        if place[0] == "items":
            return fresh(found[place[2]:])
        if place[0] == "others":
            return fresh({name: found[name] for name in found if name not in place[2]})
        return fresh(found)


def kind_of(value):
    """Return the word for what a value is."""
    if value is None:
        return "none"
    if isinstance(value, list):
        return "row"
    return "record" if isinstance(value, dict) else "integer"


def take(pattern, value, results):
    """Take a value apart; return the calls and the end, with the values themselves."""
    given = Given(value, results)
    taking = Taking(given, pattern.order, pattern.lacks)
    taking.run(steps_of(pattern))
    return with_each_place(taking.outcome(), given.value_at)


def looked(pattern, value, results):
    """Take a value apart; return the list of the looks with their answers."""
    taking = Taking(Given(value, results), pattern.order, pattern.lacks)
    taking.run(steps_of(pattern))
    return [(told_look(look), answer) for look, answer in taking.looks]

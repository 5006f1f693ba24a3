"""Values and results that answer as some facts tell, and are unlike wherever they may be."""

from partedvalues.outcomes import places_in

LETTERS = "abcdefghijklmnopqrstuvwxyz"


class Builder:
    """Makes what is at paths, by facts and by the outcomes that it has to part."""

    def __init__(self, facts, outcomes):
        self.facts = facts
        self.places = [place for outcome in outcomes for place in places_in(outcome)]
        self.number = 0

    def made_at(self, path):
        """Return what is at a path."""
        kind = self.facts.kinds.get(path)
        if kind == "none":
            return None
        if kind == "row":
            return [self.made_at(path + (index,)) for index in range(self.length(path))]
        if kind == "record":
            return {name: self.made_at(path + (name,)) for name in self.names(path)}
        return self.next_number()

    def next_number(self):
        """Return an integer that stands nowhere else."""
        self.number += 1
        while ("known", self.number) in self.places:
            self.number += 1
        return self.number

    def length(self, path):
        """Return the length of a row: long enough to be unlike each of its rests, if it may be."""
        if path in self.facts.most:
            return self.facts.most[path]
        starts = [place[2] for place in self.places if place[:2] == ("items", path)]
        return max([self.facts.least.get(path, 0), *starts]) + 1

    def names(self, path):
        """Return the names of a record's fields: all that others leave out, and one of its own."""
        asked = [told[-1] for told in self.facts.fields if told[:-1] == path]
        names = [name for name in asked if self.facts.fields[path + (name,)]]
        for place in self.places:
            if place[:2] == ("others", path):
                names.extend([name for name in place[2] if name not in names and name not in asked])
        return names + [letter for letter in LETTERS if letter not in names and letter not in asked][:1]


def built(facts, outcomes):
    """Return a tuple (value, results) that answers as facts tell, and parts unlike outcomes."""
    builder = Builder(facts, outcomes)
    value = builder.made_at(("value",))
    many = max([len(outcome[0]) for outcome in outcomes])
    return value, [builder.made_at((number,)) for number in range(many)]

"""How steps and parts take values apart, whatever the values are."""

from partedvalues.facts import Facts
from partedvalues.parts import entries_of
from partedvalues.places import (
    STEP,
    VALUE,
    inner_path,
    inner_place,
    known_place,
    rest_of_record,
    rest_of_row,
    result_place,
    told_place,
)


class Taking:
    """A run of steps over places.

    It knows values by the answers of its looks alone, which its source gives:
    `answer(look, answers)` answers a look by one of these answers,
    `note_call(number)` hears of a call.

    `held` tells the places of what is bound, `made` the calls with the places
    of what they were called with, `looks` the looks with their answers,
    `missed` the names that were read unbound, `begun` the numbers of the
    defaults that were begun, if they are numbered, `reached` the index of the
    step that was begun last, `taken` for each `cases` step that was done the
    index of the case that was taken. A failure is a tuple (place, why).
    """

    def __init__(self, source, order, lacks):
        self.source = source
        self.late = order == "late"
        self.nothing = lacks == "nothing"
        self.facts = Facts()
        self.held = {}
        self.made = []
        self.looks = []
        self.missed = {}
        self.begun = {}
        self.reached = None
        self.taken = {}
        self.failure = None

    def run(self, steps):
        """Do the steps one by one, until one fails."""
        for index, step in enumerate(steps):
            self.reached = index
            self.failure = self.do_step(step)
            if self.failure is not None:
                return

    def so_far(self):
        """Return the calls and what is bound up to now, as an outcome that has not failed."""
        return list(self.made), ("bound", [(name, self.held[name]) for name in sorted(self.held)])

    def outcome(self):
        """Return what was done: the calls and the end, with the places by themselves."""
        if self.failure is None:
            return self.so_far()
        place, why = self.failure
        return self.so_far()[0], ("failed", told_place(place), why)

    def do_step(self, step):
        """Do a step; return None, or its failure."""
        word, name, inner = step
        if word == "set":
            return self.set_name(name, inner)
        place = VALUE if name is None else self.place_of_name(name)
        if place is None:
            return STEP, ("unbound", name)
        if word == "take":
            return self.take_part(inner, place)
        return self.try_cases(inner, place)

    def set_name(self, name, term):
        """Bind a name to what a term gives; return None, or the failure."""
        place, missing = self.work_out(term)
        if place is None:
            return STEP, ("unbound", missing)
        self.held[name] = place
        return None

    def try_cases(self, parts, place):
        """Take a place by the first part that does not fail; return None, or the failure."""
        ahead = dict(self.held)
        for case, part in enumerate(parts):
            if self.take_part(part, place) is None:
                self.taken[self.reached] = case
                return None
            self.held = dict(ahead)
        return place, "cases"

    def take_part(self, part, place):
        """Take a place by a part; return None, or the failure."""
        if part[0] == "any":
            return None
        if part[0] == "name":
            self.held[part[1]] = place
            return None
        return self.take_entries(part, place)

    def take_entries(self, part, place):
        """Take a place by a row or record part; return None, or the failure."""
        if self.kind_at(place) != part[0]:
            return place, "kind"
        wanted = []
        for entry in entries_of(part):
            failure = self.take_entry(entry, place, wanted)
            if failure is not None:
                return failure
        self.take_rest(part, place)
        return self.take_wanted(wanted, place)

    def take_entry(self, entry, place, wanted):
        """Take an item or field; put it off to `wanted` if its default comes late."""
        key, part, default = entry
        if not self.is_missing(entry, place):
            return self.take_part(part, inner_place(place, key))
        if default is None:
            return place, ("field" if isinstance(key, str) else "item", key)
        if self.late:
            wanted.append(entry)
            return None
        return self.take_wanted([entry], place)

    def take_rest(self, part, place):
        """Bind the rest of a row or record part, if it has one."""
        word, entries, rest = part
        if rest is None:
            return
        if word == "row":
            self.held[rest] = rest_of_row(place, len(entries))
        else:
            self.held[rest] = rest_of_record(place, [entry[0] for entry in entries])

    def take_wanted(self, wanted, place):
        """Work out the defaults of items or fields, each taken ahead of the next one."""
        for key, part, default in wanted:
            given, missing = self.work_out(default)
            if given is None:
                return inner_place(place, key), ("unbound", missing)
            failure = self.take_part(part, given)
            if failure is not None:
                return failure
        return None

    def place_of_name(self, name):
        """Return the place of what a name is bound to, or None."""
        place = self.held.get(name)
        if place is None:
            self.missed[name] = True
        return place

    def work_out(self, term):
        """Return a tuple (place, name); the place is None if the name that was read is not bound."""
        if term[0] == "number":
            return known_place(term[1]), None
        if term[0] == "read":
            return self.place_of_name(term[1]), term[1]
        if term[0] == "numbered":
            self.begun[term[1]] = True
            return self.work_out(term[2])
        places = []
        for inner in term[2]:
            place, missing = self.work_out(inner)
            if place is None:
                return None, missing
            places.append(place)
        number = len(self.made)
        self.source.note_call(number)
        # A tuple, as a great many takings are kept at once, and tuples are kept at less cost.
        self.made.append((term[1], tuple(places)))
        return result_place(number), None

    def kind_at(self, place):
        """Return what is at a place, by a look if need be."""
        if place[0] == "known":
            return "integer"
        # A rest is what its whole is, of which that has been asked ahead.
        return self.ask(("what", place[1]))

    def is_missing(self, entry, place):
        """Tell whether an item or field lacks, by looks if need be."""
        key, _, default = entry
        if place[0] == "others" and key in place[2]:
            return True
        path = inner_path(place, key)
        if not self.ask(("has", path[:-1], path[-1])):
            return True
        return self.nothing and default is not None and self.ask(("none", path))

    def ask(self, look):
        """Return the answer of a look, which is made only if the answer does not follow."""
        answers = self.facts.answers(look)
        if len(answers) == 1:
            return answers[0]
        answer = self.source.answer(look, answers)
        self.facts.learn(look, answer)
        self.looks.append((look, answer))
        return answer

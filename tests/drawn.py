"""Programs within the bounds of promise [2], drawn by a fixed seed, and trees for them."""

import random

from partedvalues.parts import entries_of, parts_of_step, parts_within
from partedvalues.patterns import Pattern, Program, steps_of
from tests.brute import answer_of
from tests.shapes import LACKS, ORDERS
from tests.worlds import NotThere, ends_in, places_in, spots_of

FLAT = (("any",), ("name", "a"), ("name", "b"), ("row", [], None), ("record", [], None), ("row", [], "a"),
        ("record", [], "b"))


def keeps_bounds(program):
    parts = [part for step in steps_of(program) for each in parts_of_step(step) for part in parts_within(each)]
    defaults = [default for part in parts for *_, default in entries_of(part) if default is not None]
    return len(parts) <= 8 and len(defaults) <= 4 and len(steps_of(program)) <= 3


def many_worlds(looks):
    """How many worlds these looks part."""
    many = 1
    for spot in spots_of(looks).values():
        many *= len(spot.shapes())
    return many


class Drawer:
    """Draws small programs, of few names and fields, so that much in them meets."""

    def __init__(self, seed, names="ab", fields="xy"):
        self.random = random.Random(seed)
        self.names, self.fields = names, fields

    def chance(self, share):
        return self.random.random() < share

    def name(self):
        return self.random.choice(self.names)

    def rest(self):
        return self.random.choice([None, self.name()])

    def term(self, deep=1):
        if self.chance(0.5):
            return ("read", self.name())
        if self.chance(0.4) or deep == 0:
            return ("number", self.random.randint(0, 1))
        return ("call", self.random.choice("fg"), [self.term(deep - 1) for _ in range(self.random.randint(0, 2))])

    def default(self):
        return self.term() if self.chance(0.5) else None

    def part(self, deep=2):
        if deep == 0 or self.chance(0.4):
            return self.random.choice(FLAT)
        if self.chance(0.5):
            return ("row", [(self.part(deep - 1), self.default()) for _ in range(self.random.randint(0, 2))],
                    self.rest())
        fields = self.random.sample(self.fields, self.random.randint(0, 2))
        return ("record", [(field, self.part(deep - 1), self.default()) for field in fields], self.rest())

    def rules(self):
        return self.random.choice(ORDERS), self.random.choice(LACKS)

    def step(self, first):
        name = None if first else self.random.choice([None, None, *self.names])
        if self.chance(0.5):
            return ("take", name, self.part())
        if self.chance(0.2):
            return ("set", self.name(), self.term())
        return ("cases", name, [self.part() for _ in range(self.random.randint(0, 3))])

    def program(self):
        while True:
            steps = [self.step(index == 0) for index in range(self.random.randint(1, 3))]
            program = Program(steps, *self.rules())
            if keeps_bounds(program):
                return program

    def pattern(self):
        while True:
            pattern = Pattern(self.part(3), *self.rules())
            if keeps_bounds(pattern):
                return pattern

    def changed(self, program):
        """A program that perhaps does the same."""
        while True:
            steps, order, lacks = program.steps, program.order, program.lacks
            chance = self.random.random()
            if chance < 0.2:
                order = self.random.choice(ORDERS)
            elif chance < 0.4:
                lacks = self.random.choice(LACKS)
            elif chance < 0.5 and steps:
                del steps[self.random.randrange(len(steps))]
            elif chance < 0.7 and steps:
                index = self.random.randrange(len(steps))
                steps.insert(self.random.randint(0, len(steps)), steps[index])
            else:
                steps = [self.changed_step(step) for step in steps]
            if keeps_bounds(Program(steps, order, lacks)):
                return Program(steps, order, lacks)

    def changed_step(self, step):
        word, name, inner = step
        if word == "set":
            return step
        if word == "take":
            return (word, name, self.changed_part(inner)) if self.chance(0.7) else ("cases", name, [inner])
        parts = [self.changed_part(part) for part in inner]
        self.random.shuffle(parts)
        return (word, name, parts)

    def changed_part(self, part):
        if part[0] in ("name", "any"):
            return part
        word, entries, rest = part
        entries = [(*ahead, self.changed_part(inner), default if self.chance(0.9) else None)
                   for *ahead, inner, default in entries]
        if word == "record":
            self.random.shuffle(entries)
        return (word, entries, rest)

    def right_tree(self, told, looks, found):
        """A tree with looks in another order that leads as the told one does, for all of these worlds."""
        ways = {id(way): way for way in [way_of(told, world) for world in found]}
        if len(ways) == 1 and self.chance(0.8):
            return way_of(told, found[0])
        useful = [(look, parts) for look, parts in [(look, parted(look, found)) for look in looks]
                  if parts is not None and len(parts) > 1]
        if not useful:
            return way_of(told, found[0])
        look, parts = self.random.choice(useful)
        inner = [(answer, self.right_tree(told, looks, some)) for answer, some in parts.items()]
        self.random.shuffle(inner)
        return ("look", look, inner)

    def other_tree(self, told, looks):
        """A tree that is perhaps right: with other forms of places, another end, or without a way."""
        if self.chance(0.2):
            return self.tree_without_a_way(told)
        if self.chance(0.4):
            return self.with_ends(told, lambda done: changed_places(done, self.other_form), 1)
        pool = [place for done in ends_in(told) for place in places_in(done)] + [look[1] for look in looks]
        if self.chance(0.5):
            return self.with_ends(told, lambda _: self.random.choice(ends_in(told)), 0)
        return self.with_ends(told, lambda done: changed_places(done, lambda _: self.random.choice(pool)), 0)

    def with_ends(self, told, change, share):
        """A tree with its ends changed: all of them, or one, by the share."""
        if told[0] == "end":
            return ("end", change(told[1]))
        one = self.random.randrange(len(told[2]))
        return ("look", told[1], [(answer, self.with_ends(inner, change, share) if share or index == one else inner)
                                  for index, (answer, inner) in enumerate(told[2])])

    def tree_without_a_way(self, told):
        if told[0] == "end":
            return told
        ways, index = list(told[2]), self.random.randrange(len(told[2]))
        if self.chance(0.5):
            del ways[index]
        else:
            ways[index] = (ways[index][0], self.tree_without_a_way(ways[index][1]))
        return ("look", told[1], ways)

    def other_form(self, place):
        """A place in another form, which is perhaps of the same place."""
        if place[0] == "known" or self.chance(0.3):
            return place
        if self.chance(0.3):
            return self.random.choice([("items", place, 0), ("others", place, []), ("others", place, ["x"]),
                                       ("items", place, 1)])
        if place[0] == "item" and place[2] > 0 and place[1][0] != "items":
            ahead = self.random.randint(1, place[2])
            return ("item", ("items", place[1], ahead), place[2] - ahead)
        if place[0] == "field" and place[1][0] != "others":
            return ("field", ("others", place[1], ["q"]), place[2])
        if place[0] == "items" and place[2] > 1:
            return ("items", ("items", place[1], 1), place[2] - 1)
        if place[0] == "others" and len(place[2]) > 1:
            return ("others", ("others", place[1], place[2][1:]), place[2][:1])
        return place


def way_of(told, world):
    """The end of a tree to which a world leads."""
    while told[0] == "look":
        told = dict(told[2])[answer_of(told[1], world)]
    return told


def parted(look, found):
    """The worlds by their answers, or None if a look has none for one of them."""
    parts = {}
    try:
        for world in found:
            parts.setdefault(answer_of(look, world), []).append(world)
    except NotThere:
        return None
    return parts


def changed_places(done, change):
    calls, end = done
    calls = [(name, [change(place) for place in places]) for name, places in calls]
    if end[0] == "bound":
        end = ("bound", [(name, change(place)) for name, place in end[1]])
    return calls, end

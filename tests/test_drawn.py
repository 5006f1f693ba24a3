"""Promises [7] to [11], `trees`, `compare` and `fewest`, on many drawn programs and trees.

They are held against `take` with all values and results that their looks can
tell apart, and the fewest looks against the trying of all trees.
"""

import unittest

from partedvalues.compare import (alike, first_unlike, idle, lacks_alike, may_change_places, orders_alike, parting,
                                  unbound)
from partedvalues.errors import TakeError
from partedvalues.fewest import depth, fewest, shallow
from partedvalues.parts import entries_of, parts_of_step, parts_within
from partedvalues.patterns import Pattern, Program, steps_of
from partedvalues.takes import looked, take
from partedvalues.trees import ends, judge, tree, walk
from tests.brute import Brute, answer_of, more_looks
from tests.drawn import Drawer, keeps_bounds, many_worlds
from tests.model import Model
from tests.shapes import ShapeCase
from tests.worlds import (NotThere, ends_in, is_allowed, looks_around, looks_in, most_calls, places_in, with_values,
                          worlds, worlds_of)

MOST_WORLDS = 1500


def shown(*patterns):
    return [(vars(pattern)) for pattern in patterns]


def looks_on_the_way(told, world):
    """The looks of a tree with their answers, to the end of the way that a world leads along."""
    found = []
    while told[0] == "look":
        answer = answer_of(told[1], world)
        found.append((told[1], answer))
        told = dict(told[2])[answer]
    return found


def leads_right(pattern, told, found):
    """Whether a tree leads each world to what the pattern does."""
    for world in found:
        try:
            if with_values(walk(told, *world), *world) != take(pattern, *world):
                return False
        except (TakeError, NotThere):
            return False
    return True


class DrawnTest(ShapeCase):
    def programs(self, seed, many):
        """Drawn programs and patterns, each with its tree, and all worlds that its looks part."""
        drawer = Drawer(seed)
        while many > 0:
            program = drawer.program() if drawer.chance(0.7) else drawer.pattern()
            told = tree(program)
            if many_worlds(looks_in(told)) <= MOST_WORLDS:
                many -= 1
                yield drawer, program, told

    def test_trees_do_as_take(self):
        for _, program, told in self.programs(1, 500):
            done = set()
            for world in worlds_of(program):
                end = walk(told, *world)
                self.assertEqual(with_values(end, *world), take(program, *world), shown(program))
                self.assertEqual(looks_on_the_way(told, world), looked(program, *world), shown(program))
                done.add(repr(looks_on_the_way(told, world)))
            # Each way comes about, by some value and results.
            self.assertEqual(len(done), ends(told))

    def test_lists_are_new(self):
        for drawer, program, told in self.programs(2, 200):
            other = drawer.changed(program) if isinstance(program, Program) else program.with_order("soon")
            self.check_new(told, tree(program))
            value, results = worlds_of(program)[-1]
            self.check_new(walk(told, value, results), told, value, results)
            if ends(told) <= 40 and len(looks_in(told)) <= 8:
                self.check_new(shallow(program), shallow(program))
            self.check_new(first_unlike(program, other))
            self.check_new(parting(program, other))
            self.check_new(unbound(program))
            self.check_new(idle(program))

    def test_alike(self):
        seen = []
        for drawer, one, _ in self.programs(3, 800):
            if isinstance(one, Pattern):
                one = Program([("take", None, one.part)], one.order, one.lacks)
            other = drawer.changed(one) if drawer.chance(0.9) else drawer.program()
            if many_worlds(looks_in(tree(one)) + looks_in(tree(other))) > MOST_WORLDS:
                continue
            same = all(take(one, *world) == take(other, *world) for world in worlds_of(one, other))
            self.assertEqual(alike(one, other), same, shown(one, other))
            self.assertEqual(alike(other, one), same, shown(one, other))
            self.assertEqual(judge(one, tree(other)), same, shown(one, other))
            self.check_parting(one, other, same)
            seen.append(same)
        self.assertGreater(min(seen.count(True), seen.count(False)), 200)

    def check_parting(self, one, other, same):
        found = parting(one, other)
        looks = first_unlike(one, other)
        self.assertEqual((found is None, looks is None), (same, same))
        if same:
            return
        self.assertNotEqual(take(one, *found), take(other, *found), shown(one, other))
        self.assertLessEqual(len(found[1]), 80)
        self.assertEqual(len({look for look, _ in looks}), len(looks))
        world = worlds_with(looks, one, other)
        self.assertEqual(set(looked(one, *world) + looked(other, *world)), set(looks))
        self.assertNotEqual(take(one, *world), take(other, *world), shown(one, other))

    def test_orders_and_words(self):
        for _, program, _ in self.programs(4, 150):
            self.assertEqual(orders_alike(program), alike(program.with_order("soon"), program.with_order("late")))
            plain = Program(program.steps if isinstance(program, Program) else [("take", None, program.part)],
                            program.order, "absent")
            other = Program(plain.steps, plain.order, "nothing")
            self.assertEqual(lacks_alike(program), alike(plain, other))

    def test_fields_that_change_places(self):
        drawer, seen = Drawer(5), []
        for _ in range(300):
            fields = [(field, drawer.part(1), drawer.term() if drawer.chance(0.8) else None) for field in "xyz"]
            pattern = Pattern(("record", fields, drawer.rest()), *drawer.rules())
            for index in range(2):
                swapped = fields[:index] + [fields[index + 1], fields[index]] + fields[index + 2:]
                other = Pattern(("record", swapped, pattern.part[2]), pattern.order, pattern.lacks)
                if keeps_bounds(pattern) and many_worlds(looks_in(tree(pattern))) <= MOST_WORLDS:
                    same = all(take(pattern, *world) == take(other, *world) for world in worlds_of(pattern, other))
                    self.assertEqual(may_change_places(pattern, index), same, shown(pattern))
                    seen.append(same)
        self.assertGreater(min(seen.count(True), seen.count(False)), 10)

    def test_judge(self):
        seen = []
        for drawer, program, told in self.programs(6, 250):
            looks = more_looks(looks_in(told)) + [("what", ("result", 0)), ("what", ("result", 1))]
            looks = list(dict.fromkeys(looks if drawer.chance(0.5) else looks_in(told)))
            if many_worlds(looks) > MOST_WORLDS:
                continue
            right = drawer.right_tree(told, looks, worlds(looks, most_calls(told)))
            if ends(right) > 400:
                continue
            self.assertTrue(judge(program, right), (shown(program), right))
            for _ in range(3):
                other = drawer.other_tree(right, looks)
                places = [place for done in ends_in(other) for place in places_in(done)]
                around = looks + [look for place in places for look in looks_around(place)]
                if all(is_allowed(place) for place in places) and many_worlds(around) <= MOST_WORLDS:
                    want = leads_right(program, other, worlds(around, most_calls(told)))
                    self.assertEqual(judge(program, other), want, (shown(program), other))
                    seen.append(want)
        self.assertGreater(min(seen.count(True), seen.count(False)), 100)

    def test_fewest(self):
        fewer = tried = 0
        for _, program, told in self.programs(7, 500):
            looks = looks_in(told)
            if ends(told) > 40 or len(looks) > 8 or many_worlds(more_looks(looks)) > MOST_WORLDS:
                continue
            least, found = fewest(program), shallow(program)
            self.assertEqual(least, Brute(program).fewest(), shown(program))
            self.assertEqual(depth(found), least)
            self.assertTrue(judge(program, found), shown(program))
            self.assertTrue(leads_right(program, found, worlds_of(program)))
            fewer, tried = fewer + (least < depth(told)), tried + 1
        self.assertGreater(tried, 200)
        self.assertGreater(fewer, 30)

    def test_unbound(self):
        seen = []
        for _, program, _ in self.programs(9, 300):
            missed = set()
            for world in worlds_of(program):
                missed |= missed_names(program, world)
            self.assertEqual(unbound(program), sorted(missed), shown(program))
            seen.append(bool(missed))
        self.assertGreater(min(seen.count(True), seen.count(False)), 50)

    def test_idle(self):
        seen = []
        for _, program, _ in self.programs(10, 300):
            steps = steps_of(program)
            for number in range(many_defaults(steps)):
                other = Program(with_default(steps, number, ("call", "watched", [])), program.order, program.lacks)
                if many_worlds(looks_in(tree(other))) <= MOST_WORLDS:
                    calls = [take(other, *world)[0] for world in worlds_of(other)]
                    begun = any("watched" in dict(made) for made in calls)
                    self.assertEqual(number not in idle(program), begun, (shown(program), number))
                    seen.append(begun)
        self.assertGreater(min(seen.count(True), seen.count(False)), 20)

    def test_known_places_are_told_as_known(self):
        # A place is known just if it is the same for all worlds that lead to its end.
        for _, program, told in self.programs(8, 200):
            ways = {}
            for world in worlds_of(program) + worlds_of(program, start=500):
                ways.setdefault(repr(looks_on_the_way(told, world)), []).append(world)
            for found in ways.values():
                done = walk(told, *found[0])
                for place, *values in zip(places_in(done), *[values_in(program, world) for world in found]):
                    same = all(value == values[0] for value in values)
                    self.assertEqual(place[0] == "known", same, (shown(program), place))


class Watching(Model):
    """A model that keeps the names that were read unbound."""

    def term(self, term, place):
        if term[0] == "read" and term[1] not in self.names:
            self.missed.add(term[1])
        return super().term(term, place)


def missed_names(program, world):
    value, results = world
    model = Watching(program.order, program.lacks, results)
    model.missed = set()
    _, end = model.steps(steps_of(program), value)
    if end[:2] == ("failed", ("step",)):
        model.missed.add(end[2][1])
    return model.missed


def many_defaults(steps):
    parts = [part for step in steps for each in parts_of_step(step) for part in parts_within(each)]
    return sum(default is not None for part in parts for *_, default in entries_of(part))


def with_default(steps, number, term):
    """The steps with another default in the place of the one with a number, in the sequence of the text."""
    left = [number]

    def changed(part):
        if part[0] in ("name", "any"):
            return part
        entries = []
        for *ahead, inner, default in part[1]:
            if default is not None:
                default = term if left[0] == 0 else default
                left[0] -= 1
            entries.append((*ahead, changed(inner), default))
        return (part[0], entries, part[2])

    return [(word, name, inner if word == "set" else changed(inner) if word == "take" else
             [changed(part) for part in inner]) for word, name, inner in steps]


def values_in(program, world):
    return places_in(take(program, *world))


def worlds_with(looks, *patterns):
    """A world of these patterns that answers so."""
    for world in worlds_of(*patterns):
        try:
            if all(answer_of(look, world) == answer for look, answer in looks):
                return world
        except NotThere:
            pass
    raise AssertionError(looks)


if __name__ == "__main__":
    unittest.main()

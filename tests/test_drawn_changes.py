"""Promises [10] and [11] and `changes`, on many drawn programs.

What is told of them is held against `take` of the programs themselves, with
all values and results that their looks can tell apart.
"""

import itertools
import unittest

from partedvalues.changes import (fails, least_sets, left_over, may_exchange, may_swap, needless, surely_binds,
                                  untaken)
from partedvalues.compare import alike
from partedvalues.patterns import Pattern, Program
from partedvalues.takes import take
from partedvalues.trees import tree
from tests.drawn import Drawer, keeps_bounds, many_worlds
from tests.shapes import ShapeCase
from tests.test_drawn import shown
from tests.worlds import ends_in, looks_in, most_calls, worlds, worlds_of

MOST_WORLDS = 1500


class StepDrawer(Drawer):
    """Draws programs of three small steps, in which much is bound and taken again."""

    def step(self, first):
        name = self.random.choice([None, None, None, *self.names])
        if self.chance(0.3):
            return ("take", name, self.part(1))
        if self.chance(0.4):
            return ("set", self.name(), self.term())
        return ("cases", name, [self.part(self.random.randint(0, 2)) for _ in range(self.random.randint(0, 3))])

    def program(self):
        while True:
            steps = [self.step(False) for _ in range(self.random.choice([1, 2, 2, 3, 3, 3]))]
            if len(steps) > 1 and self.chance(0.3):
                steps[-1] = steps[0]
            program = Program(steps, *self.rules())
            if keeps_bounds(program):
                return program


def with_steps(program, steps):
    return Program(steps, program.order, program.lacks)


def exchanged(things, index):
    things = list(things)
    things[index], things[index + 1] = things[index + 1], things[index]
    return things


def worlds_or_none(*programs):
    """All worlds that lead these programs along unlike ways, or None if there are too many."""
    trees = [tree(program) for program in programs]
    looks = [look for told in trees for look in looks_in(told)]
    if many_worlds(looks) > MOST_WORLDS:
        return None
    return worlds(looks, max(most_calls(told) for told in trees))


class DrawnChangesTest(ShapeCase):
    def programs(self, seed, many):
        drawer = StepDrawer(seed)
        while many > 0:
            program = drawer.program()
            if many_worlds(looks_in(tree(program))) <= MOST_WORLDS:
                many -= 1
                yield program

    def same(self, one, other):
        """Whether two programs do the same, by `take`; None if that would take too long."""
        found = worlds_or_none(one, other)
        return None if found is None else all(take(one, *world) == take(other, *world) for world in found)

    def check_same(self, one, other, told, seen):
        same = self.same(one, other)
        if same is not None:
            self.assertIs(told, same, shown(one, other))
            seen.append(same)

    def check_seen(self, seen, least):
        self.assertGreater(min(seen.count(True), seen.count(False)), least)

    def test_steps_left_out(self):
        seen = []
        for program in self.programs(1, 800):
            told = needless(program)
            for index in range(len(program)):
                self.check_same(program, program.without(index), index in told, seen)
            self.assertEqual(told, sorted(set(told)))
            self.assertEqual(told, [index for index in range(len(program)) if alike(program, program.without(index))])
        self.check_seen(seen, 150)

    def test_sets_of_steps(self):
        many = []
        for program in self.programs(2, 700):
            indexes = range(len(program))
            sets = [list(each) for size in range(len(program) + 1) for each in itertools.combinations(indexes, size)]
            right = [self.same(program, with_steps(program, [program.steps[index] for index in each]))
                     for each in sets]
            if None in right:
                continue
            good = [each for each, same in zip(sets, right) if same]
            least = [each for each in good if not any(set(other) < set(each) for other in good)]
            self.assertEqual(least_sets(program), least, shown(program))
            many.append(len(least))
        self.assertGreater(len(many) - many.count(1), 20)
        self.assertGreater(many.count(1), 100)

    def test_steps_and_cases_exchanged(self):
        steps_seen, cases_seen = [], []
        for program in self.programs(3, 1200):
            for index in range(len(program) - 1):
                other = with_steps(program, exchanged(program.steps, index))
                self.check_same(program, other, may_exchange(program, index), steps_seen)
            for index, (word, name, parts) in enumerate(program.steps):
                for case in range(len(parts) - 1) if word == "cases" else ():
                    steps = program.steps
                    steps[index] = (word, name, exchanged(parts, case))
                    self.check_same(program, with_steps(program, steps), may_swap(program, index, case), cases_seen)
        self.check_seen(steps_seen, 100)
        self.check_seen(cases_seen, 50)

    def test_steps_that_fail(self):
        seen = []
        for program in self.programs(4, 500):
            ahead = [with_steps(program, program.steps[:many]) for many in range(len(program) + 1)]
            failing = {step_that_fails(ahead, world) for world in worlds_of(program)}
            self.assertEqual(fails(program), sorted(failing - {None}), shown(program))
            self.assertIs(surely_binds(program), failing == {None})
            self.assertIs(surely_binds(program), all(end[0] == "bound" for _, end in ends_in(tree(program))))
            seen.append(len(fails(program)))
        self.assertGreater(min(seen.count(0), seen.count(1), seen.count(2)), 10)

    def test_cases_that_are_taken(self):
        seen = []
        for program in self.programs(5, 500):
            told = untaken(program)
            self.assertEqual(told, sorted(told))
            for index, (word, _, parts) in enumerate(program.steps):
                for case in range(len(parts)) if word == "cases" else ():
                    taken = any(takes_case(program, index, case, world) for world in worlds_of(program))
                    self.assertEqual((index, case) in told, not taken, shown(program))
                    seen.append(taken)
            steps = [step for step, _ in told]
            self.assertTrue(all(program.steps[step][0] == "cases" for step in steps))
        self.check_seen(seen, 100)

    def test_what_is_left_over(self):
        seen = []
        for program in self.programs(6, 500):
            for index, (word, _, parts) in enumerate(program.steps):
                if word != "cases":
                    continue
                some = [world for world in worlds_of(program) if leaves_over(program, index, world)]
                told = left_over(program, index)
                self.assertIs(told is None, not some, shown(program))
                if told is not None:
                    self.assertTrue(leaves_over(program, index, told), shown(program))
                    self.assertEqual(take(program, *told)[1][2], "cases")
                    self.check_new(told, left_over(program, index))
                seen.append(told is None)
        self.check_seen(seen, 100)

    def test_patterns_that_surely_bind(self):
        drawer, seen = StepDrawer(7), []
        for _ in range(200):
            pattern = drawer.pattern()
            binds = all(end[0] == "bound" for _, end in ends_in(tree(pattern)))
            self.assertIs(surely_binds(pattern), binds)
            self.assertIs(surely_binds(Program([("take", None, pattern.part)], pattern.order, pattern.lacks)), binds)
            seen.append(binds)
        self.check_seen(seen, 20)
        self.assertIs(surely_binds(Pattern(("any",), "late", "absent")), True)


def step_that_fails(ahead, world):
    """The index of the step at which a program fails, by the programs of its first steps; None if it does not."""
    for many, program in enumerate(ahead):
        if take(program, *world)[1][0] == "failed":
            return many - 1
    return None


def binds(program, steps, world):
    return take(with_steps(program, steps), *world)[1][0] == "bound"


def leaves_over(program, index, world):
    """Whether a program comes to a `cases` step, tries its cases, and none takes."""
    if not binds(program, program.steps[:index], world):
        return False
    end = take(with_steps(program, program.steps[:index + 1]), *world)[1]
    return end[0] == "failed" and end[2] == "cases"


def takes_case(program, index, case, world):
    """Whether a case is taken: the program binds with the cases up to it, and not with those ahead of it."""
    ahead, (word, name, parts) = program.steps[:index], program.steps[index]
    return (binds(program, ahead + [(word, name, parts[:case + 1])], world)
            and not binds(program, ahead + [(word, name, parts[:case])], world))


if __name__ == "__main__":
    unittest.main()

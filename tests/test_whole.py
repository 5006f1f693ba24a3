"""The whole document: what the modules tell agrees, and nothing that was asked ahead changes an answer."""

import copy
import unittest

from partedvalues.changes import (fails, least_sets, left_over, may_exchange, may_swap, needless, surely_binds,
                                  untaken)
from partedvalues.compare import (alike, first_unlike, idle, lacks_alike, may_change_places, orders_alike, parting,
                                  unbound)
from partedvalues.errors import TakeError, UnknownPlace
from partedvalues.fewest import depth, fewest, shallow
from partedvalues.matchers import Matcher
from partedvalues.patterns import Pattern, Program
from partedvalues.readings import read_pattern, read_program
from partedvalues.takes import looked, take
from partedvalues.texts import show_pattern, show_program
from partedvalues.trees import ends, judge, tree, walk
from tests.drawn import many_worlds
from tests.shapes import ShapeCase, lists_within
from tests.test_drawn import shown
from tests.test_drawn_changes import StepDrawer
from tests.worlds import ends_in, looks_in, with_values, worlds_of

MOST_WORLDS = 600
VALUES = (5, None, [], [None], [1, [2], {}], {}, {"x": [3], "y": None}, {"x": {"y": 1}, "z": []})
RESULTS = [[], 1, {"x": 2}, None, [[], 3], {}] * 4


def text_of(pattern):
    return show_pattern(pattern) if isinstance(pattern, Pattern) else show_program(pattern)


def read(text):
    return read_program(text) if ":" in text.split("{")[0] else read_pattern(text)


def error_or_answer(act, *arguments):
    try:
        return act(*arguments)
    except TakeError as error:
        return type(error).__name__, error.value


def questions(pattern):
    """All that can be asked of a pattern or program, as tuples (function, arguments behind the pattern)."""
    found = [(act, ()) for act in (tree, orders_alike, lacks_alike, unbound, idle, surely_binds, state_of_matcher,
                                   text_of)]
    found += [(take, (value, RESULTS)) for value in VALUES] + [(looked, (VALUES[-1], RESULTS))]
    if ends(tree(pattern)) <= 40 and len(looks_in(tree(pattern))) <= 8:
        found += [(fewest, ()), (shallow, ())]
    if isinstance(pattern, Pattern):
        return found + [(may_change_places, (index,)) for index in range(-1, 3)]
    found += [(act, ()) for act in (needless, least_sets, fails, untaken)]
    found += [(act, (index,)) for act in (may_exchange, left_over) for index in range(-1, 4)]
    return found + [(may_swap, (step, case)) for step in range(-1, 4) for case in range(-1, 4)]


def state_of_matcher(pattern):
    """What a matcher tells that is led by the first answers, at each look."""
    matcher, found = Matcher(pattern), []
    while matcher.asks is not None:
        found.append((matcher.asks, matcher.calls(), matcher.bound()))
        matcher("row" if matcher.asks[0] == "what" else matcher.asks[0] == "has")
    return found + [matcher.done, matcher.calls(), matcher.bound(), len(matcher)]


class WholeTest(ShapeCase):
    def patterns(self, seed, many):
        drawer = StepDrawer(seed)
        while many > 0:
            pattern = drawer.program() if drawer.chance(0.7) else drawer.pattern()
            if many_worlds(looks_in(tree(pattern))) <= MOST_WORLDS:
                many -= 1
                yield drawer, pattern

    def test_what_is_read_goes_on_as_what_is_constructed(self):
        for _, pattern in self.patterns(1, 120):
            again = read(text_of(pattern))
            self.assertIs(type(again), type(pattern))
            self.assertTrue(again == pattern and alike(again, pattern) and Matcher(again) == Matcher(pattern))
            self.assertTrue(judge(again, tree(pattern)))
            self.assertEqual((again.names(), len(again)), (pattern.names(), len(pattern)))
            for act, behind in questions(pattern):
                self.assertEqual(error_or_answer(act, again, *behind), error_or_answer(act, pattern, *behind))

    def test_nothing_that_was_asked_ahead_changes_an_answer(self):
        for drawer, pattern in self.patterns(2, 60):
            first = [(act, behind, error_or_answer(act, read(text_of(pattern)), *behind))
                     for act, behind in questions(pattern)]
            kept = copy.deepcopy(first)
            for _ in range(2):
                drawer.random.shuffle(kept)
                for act, behind, answer in kept:
                    told = error_or_answer(act, pattern, *behind)
                    self.assertEqual(told, answer, (act, behind, shown(pattern)))
                    # What was told may be changed, and changes nothing.
                    for each in lists_within(told):
                        each.clear()

    def test_arguments_stay(self):
        for _, pattern in self.patterns(3, 60):
            value, results, told = copy.deepcopy(VALUES[-1]), copy.deepcopy(RESULTS), tree(pattern)
            again = copy.deepcopy(told)
            take(pattern, value, results), looked(pattern, value, results), walk(told, value, results)
            judge(pattern, told), ends(told), depth(told)
            self.assertEqual((value, results, told), (VALUES[-1], RESULTS, again))

    def test_trees_matchers_and_takes_agree(self):
        for drawer, pattern in self.patterns(4, 100):
            told = tree(pattern)
            self.assertEqual(surely_binds(pattern), all(end[0] == "bound" for _, end in ends_in(told)))
            for world in drawer.random.sample(worlds := worlds_of(pattern), min(len(worlds), 20)):
                matcher = Matcher(pattern)
                for look, answer in looked(pattern, *world):
                    self.assertEqual(matcher.asks, look)
                    matcher(answer)
                self.assertEqual(matcher.done, walk(told, *world))
                self.assertEqual(with_values(matcher.done, *world), take(pattern, *world))
                self.assertLessEqual(len(matcher), depth(told))

    def test_partings_agree(self):
        seen = []
        for drawer, one in self.patterns(5, 600):
            other = drawer.changed(one) if isinstance(one, Program) else one.with_order("late")
            found, looks = parting(one, other), first_unlike(one, other)
            self.assertEqual((found is None, looks is None), (alike(one, other), alike(other, one)))
            self.assertEqual(judge(one, tree(other)), found is None)
            seen.append(found is None)
            if found is None:
                self.assertEqual([take(one, value, RESULTS) for value in VALUES],
                                 [take(other, value, RESULTS) for value in VALUES])
                continue
            dones = [take(pattern, *found) for pattern in (one, other)]
            self.assertEqual(dones, [with_values(walk(tree(pattern), *found), *found) for pattern in (one, other)])
            self.assertNotEqual(*dones)
            self.check_led(one, other, dict(looks))
        self.assertGreater(min(seen.count(True), seen.count(False)), 30)

    def check_led(self, one, other, looks):
        """Check that a first lot of looks leads two matchers to their ends, by the looks of any of both alone."""
        asked = set()
        for pattern in (one, other):
            matcher = Matcher(pattern)
            while matcher.asks is not None:
                asked.add(matcher.asks)
                matcher(looks[matcher.asks])
        self.assertLessEqual(asked, set(looks))

    def test_changes_agree(self):
        for _, program in self.patterns(6, 250):
            if isinstance(program, Pattern):
                continue
            steps, told = program.steps, needless(program)
            sets = least_sets(program)
            if told:
                self.assertNotIn(list(range(len(steps))), sets)
            for index in range(len(steps)):
                self.assertEqual(index in told, parting(program, program.without(index)) is None)
            for chosen in sets:
                alone = Program([steps[index] for index in chosen], program.order, program.lacks)
                self.assertTrue(judge(program, tree(alone)))
                # Of such a set no step is needless.
                self.assertEqual(needless(alone), [])
                self.assertEqual(least_sets(alone), [list(range(len(chosen)))])
            self.assertEqual(surely_binds(program), fails(program) == [])
            for index, step in enumerate(steps):
                found = left_over(program, index) if step[0] == "cases" else None
                self.assertTrue(found is None or index in fails(program))
            for index in range(len(steps) - 1):
                self.assertEqual(may_exchange(program, index), may_exchange(program.exchanged(index), index))

    def test_cases_that_are_never_taken_may_go(self):
        for _, program in self.patterns(7, 250):
            if isinstance(program, Program):
                for step, case in untaken(program):
                    steps = program.steps
                    word, name, parts = steps[step]
                    # The calls of others stay, but behind those of the last one the program fails.
                    if case == len(parts) - 1:
                        steps[step] = (word, name, parts[:-1])
                        other = Program(steps, program.order, program.lacks)
                        self.assertTrue(binds_alike(program, other), shown(program))

    def test_errors_change_nothing(self):
        for _, pattern in self.patterns(8, 40):
            again = read(text_of(pattern))
            if isinstance(pattern, Program):
                for act in (pattern.without, pattern.exchanged):
                    self.check_error(UnknownPlace, 9, act, 9)
                for act in (may_exchange, left_over):
                    self.check_error(UnknownPlace, -1, act, pattern, -1)
            else:
                self.assertIn(error_or_answer(may_change_places, pattern, -1)[0], ("InvalidPart", "UnknownPlace"))
            self.assertEqual((pattern, tree(pattern)), (again, tree(again)))


def binds_alike(program, other):
    """Whether another program does the same wherever a program binds."""
    for world in worlds_of(program, other):
        one, two = take(program, *world), take(other, *world)
        if one[1][0] == "bound" and one != two:
            return False
    return True


if __name__ == "__main__":
    unittest.main()

"""Promises [6] to [9], [11] and `matchers`, on many drawn programs.

Matchers are led by the answers of `looked`, with all values and results that
the looks of a program can tell apart, and held against `tree`, `take`, one
another, and a model that keeps what was called and bound at each look.
"""

import unittest

from partedvalues.errors import InvalidAnswer, NothingToUndo, TakeEnded
from partedvalues.matchers import Matcher
from partedvalues.patterns import Pattern, steps_of
from partedvalues.takes import looked, take
from partedvalues.trees import tree
from tests.drawn import Drawer, many_worlds
from tests.model import Model, follows
from tests.shapes import ShapeCase
from tests.test_drawn import shown
from tests.test_matchers import BAD_KINDS, BAD_TRUTHS, state
from tests.worlds import found_at, looks_in, places_in, with_values, worlds_of

MOST_WORLDS = 400


class Asked(list):
    """The questions of a model; keeps the model's calls and names ahead of each look."""

    def __init__(self, model):
        super().__init__()
        self.model, self.kept, self.states = model, [], []

    def append(self, pair):
        super().append(pair)
        if not any(follows(pair[0], ahead, told) for ahead, told in self.kept):
            self.kept.append(pair)
            self.states.append(state_of(self.model))


def state_of(model):
    """The calls of a model and what is bound, with the values themselves."""
    return list(model.calls), [(name, model.names[name][0]) for name in sorted(model.names)]


def states_of(program, world):
    """What a program has called and bound ahead of each of its looks, and at its end."""
    value, results = world
    model = Model(program.order, program.lacks, results)
    model.asked = Asked(model)
    _, end = model.steps(steps_of(program), value)
    return model.asked.states + [state_of(model)], end


class DrawnMatchersTest(ShapeCase):
    def programs(self, seed, many):
        drawer = Drawer(seed)
        while many > 0:
            program = drawer.program() if drawer.chance(0.8) else drawer.pattern()
            told = tree(program)
            if many_worlds(looks_in(told)) <= MOST_WORLDS:
                many -= 1
                yield drawer, program, told

    def test_led_by_the_answers_of_looked(self):
        for _, program, told in self.programs(1, 400):
            for world in worlds_of(program):
                self.check_way(program, told, world)

    def check_way(self, program, told, world):
        """Lead a matcher as a value leads, beside the tree and a model."""
        matcher = Matcher(program)
        states, end = states_of(program, world)
        looks = looked(program, *world)
        self.assertEqual(len(states), len(looks) + 1)
        for many, (look, answer) in enumerate(looks):
            self.assertEqual((len(matcher), matcher.asks, matcher.done), (many, look, None), shown(program))
            self.assertEqual(told[1], look)
            self.check_state(matcher, states[many], world)
            told = dict(told[2])[answer]
            matcher(answer)
        self.assertEqual((len(matcher), matcher.asks, ("end", matcher.done)), (len(looks), None, told), shown(program))
        self.check_state(matcher, states[-1], world)
        self.assertEqual(with_values(matcher.done, *world), take(program, *world))
        self.assertEqual(matcher.done[1][1], end[1] if end[0] == "failed" else matcher.bound())

    def check_state(self, matcher, state_then, world):
        """Check the calls and what is bound up to now, with the values in the place of their places."""
        calls, names = state_then
        self.assertEqual([(name, [found_at(place, *world) for place in places]) for name, places in matcher.calls()],
                         calls)
        self.assertEqual([(name, found_at(place, *world)) for name, place in matcher.bound()], names)

    def test_known_just_if_no_answer_leaves_a_choice(self):
        for _, program, _ in self.programs(2, 150):
            ways = {}
            for world in worlds_of(program) + worlds_of(program, start=500):
                looks = looked(program, *world)
                states, _ = states_of(program, world)
                for many, (calls, names) in enumerate(states):
                    values = [value for _, values in calls for value in values] + [value for _, value in names]
                    ways.setdefault(repr(looks[:many]), ([answer for _, answer in looks[:many]], []))[1].append(values)
            for answers, found in ways.values():
                matcher = Matcher(program)
                for answer in answers:
                    matcher(answer)
                places = places_in((matcher.calls(), ("bound", matcher.bound())))
                for place, *values in zip(places, *found, strict=True):
                    same = all(value == values[0] for value in values)
                    self.assertEqual(place[0] == "known", same, (shown(program), answers, place))

    def test_back_and_on_again(self):
        for drawer, program, _ in self.programs(3, 400):
            world = drawer.random.choice(worlds_of(program))
            answers = [answer for _, answer in looked(program, *world)]
            matcher, states = Matcher(program), []
            for _ in range(60):
                many = len(matcher)
                if len(states) == many:
                    states.append(state(matcher))
                self.assertEqual(state(matcher), states[many])
                self.check_refused(matcher)
                if many < len(answers) and drawer.chance(0.7):
                    matcher(answers[many])
                elif many == 0:
                    self.check_error(NothingToUndo, 0, matcher.undo)
                else:
                    matcher.undo()

    def check_refused(self, matcher):
        """Check that no answer is taken which the look cannot have."""
        before = state(matcher)
        if matcher.asks is None:
            self.check_error(TakeEnded, 0, matcher, True)
            self.check_error(TakeEnded, 0, matcher, 0)
        else:
            for bad in BAD_KINDS if matcher.asks[0] == "what" else BAD_TRUTHS:
                self.check_error(InvalidAnswer, bad, matcher, bad)
        self.assertEqual(state(matcher), before)

    def test_just_the_answers_that_ways_of_the_tree_have(self):
        for _, program, told in self.programs(4, 200):
            self.check_ways(Matcher(program), told)

    def check_ways(self, matcher, told):
        if told[0] == "end":
            self.assertEqual((matcher.asks, matcher.done), (None, told[1]))
            return
        self.assertEqual(matcher.asks, told[1])
        ways = [answer for answer, _ in told[2]]
        for answer in ("integer", "none", "record", "row", True, False):
            if not any(answer is way or answer == way and isinstance(answer, str) for way in ways):
                self.check_error(InvalidAnswer, answer, matcher, answer)
        for answer, inner in told[2]:
            matcher(answer)
            self.check_ways(matcher, inner)
            matcher.undo()
        self.assertEqual(matcher.asks, told[1])

    def test_equal_just_if_patterns_and_answers_are(self):
        drawer = Drawer(5)
        matchers = []
        for _ in range(60):
            program = drawer.pattern() if drawer.chance(0.5) else drawer.program()
            for again in (program, program.with_order(program.order), program.with_order("late")):
                matcher, answers = Matcher(again), []
                while matcher.asks is not None and drawer.chance(0.6):
                    answers.append(drawer.random.choice(["row", "record"]) if matcher.asks[0] == "what"
                                   else drawer.chance(0.5))
                    matcher(answers[-1])
                matchers.append((matcher, again, answers))
        for one, pattern, answers in matchers:
            for other, second, others in matchers:
                self.assertEqual(one == other, pattern == second and answers == others)
                self.assertEqual(one != other, not one == other)
        self.assertTrue(any(isinstance(pattern, Pattern) for _, pattern, _ in matchers))

    def test_lists_are_new(self):
        for drawer, program, _ in self.programs(6, 200):
            matcher = Matcher(program)
            world = drawer.random.choice(worlds_of(program))
            for _, answer in looked(program, *world) + [(None, None)]:
                told = (matcher.calls(), matcher.bound(), matcher.done)
                self.check_new(told, (matcher.calls(), matcher.bound(), matcher.done))
                if answer is not None:
                    matcher(answer)


if __name__ == "__main__":
    unittest.main()

"""Promises [6] to [9] and [11] on many programs and values, made by a fixed seed."""

import copy
import random
import unittest

from partedvalues.errors import TakeEnded
from partedvalues.patterns import Pattern, Program
from partedvalues.takes import looked, take
from tests.model import model_take
from tests.shapes import LACKS, ORDERS, ShapeCase

NAMES, FIELDS, FUNCTIONS = "abc", "xyz", "fg"


class Maker:
    """Makes parts, programs and values."""

    def __init__(self, seed):
        self.random = random.Random(seed)
        self.ahead = []

    def name(self):
        return self.random.choice(NAMES)

    def name_to_read(self):
        """A name, mostly one that some step ahead may have bound."""
        if self.ahead and self.random.random() < 0.9:
            return self.random.choice(self.ahead)
        return self.name()

    def rest(self):
        return self.random.choice([None, self.name()])

    def term(self, deep):
        chance = self.random.random()
        if chance < 0.4:
            return ("read", self.name_to_read())
        if chance < 0.6 or deep == 0:
            return ("number", self.random.randint(-9, 9))
        return ("call", self.random.choice(FUNCTIONS), [self.term(deep - 1) for _ in range(self.random.randint(0, 2))])

    def default(self):
        return self.term(2) if self.random.random() < 0.5 else None

    def part(self, deep):
        chance = self.random.random()
        if deep == 0 or chance < 0.3:
            return ("name", self.name()) if chance < 0.25 else ("any",)
        if chance < 0.65:
            items = [(self.part(deep - 1), self.default()) for _ in range(self.random.randint(0, 3))]
            return ("row", items, self.rest())
        fields = self.random.sample(FIELDS, self.random.randint(0, 3))
        return ("record", [(field, self.part(deep - 1), self.default()) for field in fields], self.rest())

    def step(self):
        chance = self.random.random()
        name = self.random.choice([None, self.name_to_read()]) if self.ahead else None
        if chance < 0.4:
            return ("take", name, self.part(3))
        if chance < 0.6:
            return ("set", self.name(), self.term(2))
        return ("cases", name, [self.part(2) for _ in range(self.random.randint(0, 3))])

    def program(self):
        program = Program([], self.random.choice(ORDERS), self.random.choice(LACKS))
        for _ in range(self.random.randint(1, 4)):
            self.ahead = program.names()
            program = Program(program.steps + [self.step()], program.order, program.lacks)
        self.ahead = []
        return program

    def pattern(self):
        return Pattern(self.part(4), self.random.choice(ORDERS), self.random.choice(LACKS))

    def value(self, deep):
        chance = self.random.random()
        if deep == 0 or chance < 0.2:
            return self.random.choice([None, 0, 5, [], {}])
        if chance < 0.6:
            return [self.value(deep - 1) for _ in range(self.random.randint(0, 4))]
        return {field: self.value(deep - 1) for field in self.random.sample(FIELDS, self.random.randint(0, 3))}

    def fitting(self, part):
        """A value that a part may well take."""
        if self.random.random() < 0.1:
            return self.value(2)
        if part[0] == "row":
            value = [self.fitting(inner) for inner, _ in part[1]] + [self.value(1)] * self.random.randint(0, 2)
            return value[:self.random.randint(0, 9)]
        if part[0] == "record":
            value = {field: self.fitting(inner) for field, inner, _ in part[1] if self.random.random() < 0.8}
            return {**value, **self.random.choice([{}, {"x": 1}, {"u": []}])} if "x" not in value else value
        return self.value(2)

    def value_for(self, program):
        parts = [step[2] for step in program.steps if step[0] == "take"]
        parts += [part for step in program.steps if step[0] == "cases" for part in step[2]]
        return self.fitting(self.random.choice(parts)) if parts else self.value(2)

    def results(self):
        return [self.value(2) for _ in range(self.random.choice([0, 1, 2, 12]))]


def taken(pattern, value, results):
    try:
        return take(pattern, value, results), looked(pattern, value, results)
    except TakeEnded as ended:
        return ended.value, ended.value


def place_in(holder, place):
    """Where a place stands in a dict of the value and the results: its holder and key."""
    if place[0] == "value":
        return holder, "value"
    if place[0] == "result":
        return holder["results"], place[1]
    inner, key = place_in(holder, place[1])
    return inner[key], place[2]


def other_answers(look, answer, ahead):
    """The other answers that a look may have, with a change of what is there that gives each."""
    if look[0] == "what":
        worths = {"integer": 1, "none": None, "record": {}, "row": []}
        if (("none", look[1]), False) in ahead:
            del worths["none"]
        return [(kind, lambda _, worth=worth: worth) for kind, worth in worths.items() if kind != answer]
    if look[0] == "none":
        return [(not answer, lambda _: 1 if answer else None)]
    if isinstance(look[2], int):
        return [(not answer, lambda row: row[:look[2]] if answer else (row + [1] * (look[2] + 1))[:look[2] + 1])]
    cut = {look[2]: 1}
    return [(not answer, lambda record: {key: record[key] for key in record if key not in cut} if answer
             else {**record, **cut})]


class ModelTest(ShapeCase):
    def test_take_and_looked_as_the_model(self):
        maker = Maker(1)
        for _ in range(2500):
            program = maker.program()
            for _ in range(6):
                value, results = maker.value_for(program), maker.results()
                self.assertEqual(taken(program, value, results), model_take(program, value, results),
                                 (program.steps, program.order, program.lacks, value, results))

    def test_patterns_as_the_model(self):
        maker = Maker(2)
        for _ in range(1500):
            pattern = maker.pattern()
            program = Program([("take", None, pattern.part)], pattern.order, pattern.lacks)
            for _ in range(6):
                value, results = maker.fitting(pattern.part), maker.results()
                self.assertEqual(taken(pattern, value, results), model_take(program, value, results),
                                 (pattern.part, pattern.order, pattern.lacks, value, results))

    def test_no_lists_are_shared(self):
        maker = Maker(3)
        for _ in range(400):
            program = maker.program()
            value, results = maker.value_for(program), maker.results()
            before = copy.deepcopy((value, results))
            done = taken(program, value, results)
            self.check_new(done, value, results, program.steps)
            self.assertEqual((value, results), before)

    def test_each_other_answer_comes_about(self):
        # No look is made whose answer follows: a change of what is there gives each other one.
        maker, tried = Maker(4), 0
        for _ in range(800):
            program = maker.program()
            value, results = maker.value_for(program), [maker.value(2) for _ in range(40)]
            looks = looked(program, value, results)
            for index, (look, answer) in enumerate(looks):
                for other, change in other_answers(look, answer, looks[:index]):
                    holder = copy.deepcopy({"value": value, "results": results})
                    inner, key = place_in(holder, look[1])
                    inner[key] = change(inner[key])
                    again = looked(program, holder["value"], holder["results"])
                    self.assertEqual(again[:index + 1], looks[:index] + [(look, other)])
                    tried += 1
        self.assertGreater(tried, 2000)

    def test_what_is_done_hangs_on_the_answers_alone(self):
        maker = Maker(5)
        for _ in range(150):
            program, seen = maker.program(), {}
            for _ in range(40):
                value, results = maker.value_for(program), [maker.value(2) for _ in range(40)]
                calls, end = take(program, value, results)
                shape = ([name for name, _ in calls], end if end[0] == "failed" else [name for name, _ in end[1]])
                self.assertEqual(seen.setdefault(repr(looked(program, value, results)), shape), shape)

    def test_a_pattern_makes_no_more_looks_than_it_has_things(self):
        maker = Maker(6)
        for _ in range(800):
            pattern = maker.pattern()
            value, results = maker.fitting(pattern.part), [maker.value(2) for _ in range(60)]
            self.assertLessEqual(len(looked(pattern, value, results)), things_in(pattern.part))


def things_in(part):
    """The number of the parts, items and fields, and defaults of a part."""
    if part[0] not in ("row", "record"):
        return 1
    return 1 + sum(1 + things_in(inner) + (default is not None) for *_, inner, default in part[1])


if __name__ == "__main__":
    unittest.main()

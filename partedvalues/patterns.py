"""Patterns and programs, which never change."""

from partedvalues.checks import check_part, check_rules, check_step
from partedvalues.copies import fresh
from partedvalues.errors import UnknownPlace
from partedvalues.parts import names_of_part, names_of_step, parts_within


class Pattern:
    """A part with an order and a word for what lacks."""

    def __init__(self, part, order, lacks):
        check_part(part)
        check_rules(order, lacks)
        self._part = fresh(part)
        self._order = order
        self._lacks = lacks

    @property
    def part(self):
        """A new copy of the part."""
        return fresh(self._part)

    @property
    def order(self):
        """The order, soon or late."""
        return self._order

    @property
    def lacks(self):
        """The word for what lacks, absent or nothing."""
        return self._lacks

    def names(self):
        """Return the ascending list of the names that the pattern may bind."""
        return sorted(set(names_of_part(self._part)))

    def with_order(self, order):
        """Return the pattern with an order."""
        return Pattern(self._part, order, self._lacks)

    def __len__(self):
        return len(parts_within(self._part))

    def __eq__(self, other):
        return (isinstance(other, Pattern) and self._part == other._part
                and self._order == other._order and self._lacks == other._lacks)


class Program:
    """A list of steps with an order and a word for what lacks."""

    def __init__(self, steps, order, lacks):
        for step in steps:
            check_step(step)
        check_rules(order, lacks)
        self._steps = fresh(steps)
        self._order = order
        self._lacks = lacks

    @property
    def steps(self):
        """A new copy of the list of the steps."""
        return fresh(self._steps)

    @property
    def order(self):
        """The order, soon or late."""
        return self._order

    @property
    def lacks(self):
        """The word for what lacks, absent or nothing."""
        return self._lacks

    def names(self):
        """Return the ascending list of the names that the program may bind."""
        return sorted({name for step in self._steps for name in names_of_step(step)})

    def with_order(self, order):
        """Return the program with an order."""
        return Program(self._steps, order, self._lacks)

    def without(self, index):
        """Return the program without the step at an index."""
        if not 0 <= index < len(self._steps):
            raise UnknownPlace(index)
        return Program(self._steps[:index] + self._steps[index + 1:], self._order, self._lacks)

    def exchanged(self, index):
        """Return the program with the step at an index behind the next one."""
        if not 0 <= index < len(self._steps) - 1:
            raise UnknownPlace(index)
        steps = list(self._steps)
        steps[index], steps[index + 1] = steps[index + 1], steps[index]
        return Program(steps, self._order, self._lacks)

    def __len__(self):
        return len(self._steps)

    def __eq__(self, other):
        return (isinstance(other, Program) and self._steps == other._steps
                and self._order == other._order and self._lacks == other._lacks)


def steps_of(pattern):
    """Return the steps of a program, or of the program that does what a pattern does."""
    if isinstance(pattern, Program):
        return pattern.steps
    return [("take", None, pattern.part)]

"""Takings that are led look by look."""

from partedvalues.copies import fresh
from partedvalues.errors import InvalidAnswer, NothingToUndo, TakeEnded
from partedvalues.outcomes import told_outcome
from partedvalues.patterns import steps_of
from partedvalues.places import told_look
from partedvalues.taking import Taking


class Told:
    """The answers that were told up to now, the source of a taking, which goes no further than they do.

    `look` and `choices` are the first look that has no answer, if there is
    one, and the answers that it may have.
    """

    def __init__(self, given):
        self.given = given
        self.many = 0
        self.look = None
        self.choices = []

    def note_call(self, number):
        """Do nothing: each call has a result."""

    def answer(self, look, answers):
        """Return the next answer; behind the last one keep the look, and raise TakeEnded."""
        if self.many == len(self.given):
            self.look = look
            self.choices = answers
            raise TakeEnded(self.many)
        self.many += 1
        return self.given[self.many - 1]


def is_among(answer, answers):
    """Tell whether an answer is one of these texts or truths; an integer is no truth here."""
    return isinstance(answer, (bool, str)) and answer in answers


class Matcher:
    """A pattern or program that is led by answers to its looks, one by one."""

    def __init__(self, pattern):
        self._pattern = pattern
        self._answers = []
        self._lead()

    def _lead(self):
        """Take the steps anew, up to the first look that has no answer."""
        told = Told(self._answers)
        taking = Taking(told, self._pattern.order, self._pattern.lacks)
        try:
            taking.run(steps_of(self._pattern))
            self._done = told_outcome(taking.outcome(), taking.facts)
        except TakeEnded:
            self._done = None
        self._taking = taking
        self._asks = None if told.look is None else told_look(told.look)
        self._choices = told.choices

    @property
    def asks(self):
        """The look that is made next, or None if the taking has ended."""
        return self._asks

    @property
    def done(self):
        """What the pattern does, or None if the taking has not ended."""
        return fresh(self._done)

    def __call__(self, answer):
        """Tell the answer of the look that is made next, and go on."""
        if self._asks is None:
            raise TakeEnded(0)
        if not is_among(answer, self._choices):
            raise InvalidAnswer(answer)
        self._answers.append(answer)
        self._lead()

    def calls(self):
        """Return the list of the calls up to now, with places as the answers up to now tell them."""
        calls, _ = told_outcome(self._taking.so_far(), self._taking.facts)
        return calls

    def bound(self):
        """Return the list of the tuples (name, place) of what is bound up to now, likewise."""
        _, end = told_outcome(self._taking.so_far(), self._taking.facts)
        return end[1]

    def undo(self):
        """Take back the last answer."""
        if not self._answers:
            raise NothingToUndo(0)
        self._answers.pop()
        self._lead()

    def __len__(self):
        return len(self._answers)

    def __eq__(self, other):
        return (isinstance(other, Matcher) and self._pattern == other._pattern
                and self._answers == other._answers)

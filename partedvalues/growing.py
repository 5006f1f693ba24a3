"""Trees of looks, grown from takings that try each answer.

A node is ("look", look, ways), with the list of the tuples (answer, node),
or an end: ("end", taking), with the taking that ended there, in a grown
tree, ("end", outcome) in a thin one.
"""

from partedvalues.numbering import numbered_steps
from partedvalues.patterns import steps_of
from partedvalues.taking import Taking


class Scripted:
    """A list of answers, the source of a taking; keeps the looks behind them, with all answers."""

    def __init__(self, script):
        self.script = script
        self.many = 0
        self.behind = []

    def note_call(self, number):
        """Do nothing: each call has a result."""

    def answer(self, look, answers):
        """Return the next answer of the list; behind it, the first one that may be."""
        self.many += 1
        if self.many <= len(self.script):
            return self.script[self.many - 1]
        self.behind.append((look, answers))
        return answers[0]


def grown(pattern):
    """Return the tree of all looks of a pattern, its defaults numbered."""
    steps, _ = numbered_steps(steps_of(pattern))
    return grown_behind(steps, pattern.order, pattern.lacks, [])


def grown_behind(steps, order, lacks, script):
    """Return the tree of the looks that are made behind a list of answers."""
    source = Scripted(script)
    taking = Taking(source, order, lacks)
    taking.run(steps)
    firsts = [answers[0] for _, answers in source.behind]
    node = ("end", taking)
    for index in reversed(range(len(firsts))):
        look, answers = source.behind[index]
        ways = [(firsts[index], node)]
        for answer in answers[1:]:
            ways.append((answer, grown_behind(steps, order, lacks, script + firsts[:index] + [answer])))
        node = ("look", look, ways)
    return node


def takings_in(node):
    """Return the list of the takings at the ends of a grown tree."""
    if node[0] == "end":
        return [node[1]]
    return [taking for _, inner in node[2] for taking in takings_in(inner)]


def thin(node):
    """Return a grown tree without the looks that change nothing of what is done."""
    if node[0] == "end":
        return ("end", node[1].outcome())
    ways = [(answer, thin(inner)) for answer, inner in node[2]]
    first = ways[0][1]
    if all([inner == first for _, inner in ways]):
        return first
    return ("look", node[1], ways)


def thin_tree(pattern):
    """Return a tree of looks whose ends are what a pattern does."""
    return thin(grown(pattern))


def ends_within(node, facts):
    """Return the list of the tuples (facts, outcome) of a thin tree's ends that some facts allow."""
    if node[0] == "end":
        return [(facts, node[1])]
    look = node[1]
    answers = facts.answers(look)
    found = []
    for answer, inner in node[2]:
        if answer in answers:
            found.extend(ends_within(inner, facts.with_answer(look, answer)))
    return found

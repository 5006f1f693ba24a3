"""The search for a tree with the fewest looks that tells what a thin tree tells.

It makes only the looks of the thin tree, as no other look can help: whatever
the thin tree does not ask may always have the answer that rules out the least.
`what` stands for each `none`, as it tells more by one look.
"""

from partedvalues.facts import Facts
from partedvalues.outcomes import places_in, told_outcome, with_each_place, with_places
from partedvalues.places import told_look
from partedvalues.settling import settled

# A place of a higher rank is the more general one: answers can tell it as one of a lower rank.
RANKS = {"known": 0, "at": 1, "others": 2, "items": 3}


def telling_look(look):
    """Return the look that tells at least as much: what, in the place of none."""
    return ("what", look[1]) if look[0] == "none" else look


def survey(node, facts, ends, looks):
    """Add the ends of a thin tree that some facts allow, and the looks on the ways to them."""
    if node[0] == "end":
        ends.append((facts, node[1]))
        return
    look = node[1]
    answers = facts.answers(look)
    if len(answers) > 1:
        looks[telling_look(look)] = True
    for answer, inner in node[2]:
        if answer in answers:
            survey(inner, facts.with_answer(look, answer), ends, looks)


def shape_of(outcome):
    """Return an outcome without its places."""
    return with_each_place(outcome, lambda _: None)


def generality(place):
    """Return a tuple that is greater for a place that is more general."""
    return RANKS[place[0]], len(place[2]) if place[0] == "others" else 0


def common_place(places):
    """Return one place that is right by each of the tuples (facts, place), or None."""
    first = places[0][1]
    if all([place == first for _, place in places]):
        return first
    told = [settled(place, facts) for facts, place in places]
    best = max(told, key=generality)
    if all([settled(best, pair[0]) == place for pair, place in zip(places, told)]):
        return best
    return None


def common_outcome(ends):
    """Return one outcome that is right by each of the tuples (facts, outcome), or None."""
    first = ends[0][1]
    shape = shape_of(first)
    if not all([shape_of(outcome) == shape for _, outcome in ends]):
        return None
    rows = [(facts, places_in(outcome)) for facts, outcome in ends]
    common = []
    for index in range(len(rows[0][1])):
        place = common_place([(facts, places[index]) for facts, places in rows])
        if place is None:
            return None
        common.append(place)
    return with_places(first, common)


class Search:
    """Finds out how many looks are needed behind facts, and keeps what it found.

    A key tells facts by the answers of all looks. `needs` tells the number of
    looks below which there is no tree, `chosen` a number that is enough, with
    the look that comes first, or None at an end.
    """

    def __init__(self, node):
        self.node = node
        looks = {}
        survey(node, Facts(), [], looks)
        self.looks = list(looks)
        self.needs = {}
        self.chosen = {}

    def key_of(self, facts):
        """Return the key of facts."""
        return tuple([facts.follows(look) for look in self.looks])

    def is_enough(self, facts, many):
        """Tell whether behind facts a tree with at most so many looks on a way is right."""
        key = self.key_of(facts)
        if key in self.chosen and self.chosen[key][0] <= many:
            return True
        if many < self.needs.get(key, 0):
            return False
        ends = []
        looks = {}
        survey(self.node, facts, ends, looks)
        if common_outcome(ends) is not None:
            self.chosen[key] = (0, None)
            return True
        for look in looks:
            if many > 0 and facts.may_ask(look) and self.is_enough_behind(facts, look, many - 1):
                self.chosen[key] = (many, look)
                return True
        self.needs[key] = many + 1
        return False

    def is_enough_behind(self, facts, look, many):
        """Tell whether so many looks are enough behind each answer of a look."""
        for answer in facts.answers(look):
            if not self.is_enough(facts.with_answer(look, answer), many):
                return False
        return True

    def least_depth(self):
        """Return the least depth of a tree that is right."""
        many = 0
        while not self.is_enough(Facts(), many):
            many += 1
        return many

    def told_behind(self, facts):
        """Return the tree that was found behind facts."""
        look = self.chosen[self.key_of(facts)][1]
        if look is None:
            ends = []
            survey(self.node, facts, ends, {})
            return ("end", told_outcome(common_outcome(ends), facts))
        ways = [(answer, self.told_behind(facts.with_answer(look, answer))) for answer in facts.answers(look)]
        return ("look", told_look(look), ways)

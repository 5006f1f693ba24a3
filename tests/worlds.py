"""All values and results that some looks can tell apart, to hold the program against.

What no look asks for is an integer that stands nowhere else; records have a
field, and rows items, that no look asks for.
"""

import itertools

from partedvalues.trees import tree

LEAF = "leaf"
EXTRA = "extra"


class Spot:
    """What looks ask of one place: whether they do, and the keys of what they ask within."""

    def __init__(self):
        self.asked = False
        self.keys = {}

    def within(self, key):
        self.asked = True
        return self.keys.setdefault(key, Spot())

    def shapes(self):
        """All that may be here: LEAF, None, a list of shapes, or a dict of shapes."""
        if not self.asked:
            return [LEAF]
        found = [LEAF, None]
        inner = {key: spot.shapes() for key, spot in self.keys.items()}
        for length in range(max([key for key in inner if isinstance(key, int)], default=-1) + 3):
            found.extend(list(row) for row in itertools.product(*[inner.get(at, [LEAF]) for at in range(length)]))
        names = sorted(key for key in inner if isinstance(key, str))
        for many in range(len(names) + 1):
            for some in itertools.combinations(names, many):
                for fields in itertools.product(*[inner[name] for name in some]):
                    found.append({**dict(zip(some, fields)), EXTRA: LEAF})
        return found


def spots_of(looks):
    roots = {}

    def spot_of(place):
        if place[0] in ("value", "result"):
            return roots.setdefault(place[-1], Spot())
        return spot_of(place[1]).within(place[2])

    for look in looks:
        spot = spot_of(look[1])
        spot.asked = True
        if look[0] == "has":
            spot.within(look[2])
    return roots


def worlds(looks, many=0, start=100):
    """All tuples (value, results) that answer the looks in unlike ways, with at least so many results.

    What is not asked for are the integers from `start` on.
    """
    roots = spots_of(looks)
    keys = ["value"] + list(range(max([key + 1 for key in roots if key != "value"] + [many])))
    found = []
    for shapes in itertools.product(*[roots[key].shapes() if key in roots else [LEAF] for key in keys]):
        counter = itertools.count(start)
        value, *results = [made(shape, counter) for shape in shapes]
        found.append((value, results))
    return found


def made(shape, counter):
    if shape == LEAF:
        return next(counter)
    if isinstance(shape, list):
        return [made(each, counter) for each in shape]
    if isinstance(shape, dict):
        return {name: made(each, counter) for name, each in shape.items()}
    return shape


def looks_in(told):
    """All unlike looks of a tree, each once."""
    if told[0] == "end":
        return []
    found = {look: True for _, inner in told[2] for look in looks_in(inner)}
    return list({told[1]: True, **found})


def ends_in(told):
    """All ends of a tree."""
    if told[0] == "end":
        return [told[1]]
    return [done for _, inner in told[2] for done in ends_in(inner)]


def most_calls(told):
    return max(len(calls) for calls, _ in ends_in(told))


def worlds_of(*patterns, start=100):
    """All tuples (value, results) that lead some patterns along unlike ways."""
    trees = [tree(pattern) for pattern in patterns]
    looks = [look for told in trees for look in looks_in(told)]
    return worlds(looks, max(most_calls(told) for told in trees), start)


class NotThere(Exception):
    """Nothing stands at a place."""


def found_at(place, value, results):
    """What stands at a place that is told, in any form."""
    word = place[0]
    if word == "value":
        return value
    if word == "known":
        return place[1]
    if word == "result":
        return results[place[1]]
    whole = found_at(place[1], value, results)
    if not isinstance(whole, list if word in ("item", "items") else dict):
        raise NotThere(place)
    if word == "items":
        return whole[place[2]:]
    if word == "others":
        return {name: whole[name] for name in whole if name not in place[2]}
    if word == "item" and place[2] >= len(whole) or word == "field" and place[2] not in whole:
        raise NotThere(place)
    return whole[place[2]]


def with_values(done, value, results):
    """What is done, with the values in the place of their places."""
    calls, end = done
    calls = [(name, [found_at(place, value, results) for place in places]) for name, places in calls]
    if end[0] == "failed":
        return calls, end
    return calls, ("bound", [(name, found_at(place, value, results)) for name, place in end[1]])


def places_in(done):
    """All places of the calls and of what is bound."""
    calls, end = done
    return [place for _, places in calls for place in places] + ([place for _, place in end[1]]
                                                                 if end[0] == "bound" else [])


def is_allowed(place):
    """Whether a place is none within a known value, and no field of others that these leave out."""
    if place[0] in ("value", "result", "known"):
        return True
    whole = place[1]
    while place[0] == "field" and whole[0] == "others":
        if place[2] in whole[2]:
            return False
        whole = whole[1]
    return place[1][0] != "known" and is_allowed(place[1])


def plain(place):
    """The place of a whole row or record of which this is a rest, and the index from which it goes on."""
    if place[0] in ("value", "result"):
        return place, 0
    whole, start = plain(place[1])
    if place[0] == "items":
        return whole, start + place[2]
    if place[0] == "others":
        return whole, 0
    return (place[0], whole, place[2] + start if place[0] == "item" else place[2]), 0


def looks_around(place):
    """Looks that tell whether a place is there, and whether it is unlike its rests."""
    if place[0] in ("value", "result", "known"):
        return []
    whole, start = plain(place[1])
    keys = place[2] if place[0] == "others" else [place[2] + start if place[0] in ("item", "items") else place[2]]
    return looks_around(place[1]) + [("what", whole)] + [("has", whole, key) for key in keys]

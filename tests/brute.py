"""The fewest looks, by trying all trees on all values that looks can tell apart.

A set of values is a mask of bits, and a tree is right for it if one thing
that can be told, of all that can be told at all, is what the pattern does
with each of them.
"""

import itertools

from partedvalues.takes import take
from partedvalues.trees import tree
from tests.worlds import NotThere, found_at, looks_in, most_calls, worlds


def more_looks(looks):
    """Looks at the same places and around them, also such as the pattern never makes."""
    found = {}
    for look in looks:
        found[look] = True
        found[("what", look[1])] = True
        found[("none", look[1])] = True
        if look[0] == "has":
            for key in (look[2] + 1, look[2] + 2) if isinstance(look[2], int) else ("y", "unasked"):
                found[("has", look[1], key)] = True
    return list(found)


def answer_of(look, world):
    found = found_at(look[1], *world)
    if look[0] == "what":
        return {int: "integer", type(None): "none", dict: "record", list: "row"}[type(found)]
    if look[0] == "none":
        return found is None
    if not isinstance(found, dict if isinstance(look[2], str) else list):
        raise NotThere(look)
    return look[2] in found if isinstance(look[2], str) else look[2] < len(found)


class Brute:
    def __init__(self, pattern, extra=True):
        told = tree(pattern)
        looks = looks_in(told)
        self.looks = more_looks(looks) if extra else looks
        self.worlds = worlds(self.looks, most_calls(told))
        self.dones = [take(pattern, *world) for world in self.worlds]
        self.answers = [self.masks(look) for look in self.looks]
        self.rights = self.masks_of_ends(self.places())
        self.depths = {}

    def masks(self, look):
        """For each answer of a look the mask of what answers so, and the mask of what answers at all."""
        masks, all_of_them = {}, 0
        for at, world in enumerate(self.worlds):
            try:
                answer = answer_of(look, world)
            except NotThere:
                continue
            masks[answer] = masks.get(answer, 0) | 1 << at
            all_of_them |= 1 << at
        return list(masks.values()), all_of_them

    def places(self):
        """All places that may tell what is done, in one form each."""
        plain = {("value",): True}
        for number in range(len(self.worlds[0][1])):
            plain[("result", number)] = True
        for look in self.looks:
            plain[look[1]] = True
            if look[0] == "has":
                plain[("field" if isinstance(look[2], str) else "item", look[1], look[2])] = True
        names = sorted({look[2] for look in self.looks if look[0] == "has" and isinstance(look[2], str)})
        some = [list(each) for many in range(1, len(names) + 1) for each in itertools.combinations(names, many)]
        return (list(plain) + [("items", place, index) for place in plain for index in range(1, 5)]
                + [("others", place, each) for place in plain for each in some])

    def masks_of_ends(self, places):
        """Each end's parts: for each shape and spot in it the masks for which one place, or known value, is right."""
        shown = []
        for place in places:
            column = []
            for world in self.worlds:
                try:
                    column.append(repr(found_at(place, *world)))
                except NotThere:
                    column.append(None)
            shown.append(column)
        shapes = {}
        for at, done in enumerate(self.dones):
            shape, values = taken_apart(done)
            shapes.setdefault(shape, []).append((at, values))
        return [self.masks_of_shape(rows, shown) for rows in shapes.values()]

    def masks_of_shape(self, rows, shown):
        spots = []
        for spot in range(len(rows[0][1])):
            masks, known = [], {}
            for column in shown:
                masks.append(sum(1 << at for at, values in rows if column[at] == values[spot]))
            for at, values in rows:
                known[values[spot]] = known.get(values[spot], 0) | 1 << at
            spots.append(masks + list(known.values()))
        return sum(1 << at for at, _ in rows), spots

    def is_one_end(self, mask):
        for whole, spots in self.rights:
            if mask & whole:
                return mask & ~whole == 0 and all(any(mask & ~right == 0 for right in masks) for masks in spots)

    def is_enough(self, mask, many):
        """Whether a tree of this depth is right for all worlds of a mask."""
        least, most = self.depths.get(mask, (0, 99))
        if least > many or most <= many:
            return most <= many
        good = self.is_one_end(mask) or (many > 0 and any(
            mask & ~there == 0 and all(part & mask != mask and self.is_enough(part & mask, many - 1)
                                       for part in masks if part & mask)
            for masks, there in self.answers))
        self.depths[mask] = (least, many) if good else (many + 1, most)
        return good

    def fewest(self):
        mask = (1 << len(self.worlds)) - 1
        return next(many for many in itertools.count() if self.is_enough(mask, many))


def taken_apart(done):
    """The shape of what is done, and the list of its values, as texts."""
    calls, end = done
    values = [value for _, values in calls for value in values]
    if end[0] == "bound":
        values += [value for _, value in end[1]]
        end = [name for name, _ in end[1]]
    return repr(([(name, len(values)) for name, values in calls], end)), [repr(value) for value in values]

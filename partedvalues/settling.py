"""Places as the answers of looks tell them.

Two places that are settled by the same answers are equal just if the values
there are, for all values and results that answer so.
"""


def settled(place, facts):
    """Return a place as the answers tell it, or None if nothing is surely there."""
    if place is None or place[0] == "known":
        return place
    if place[0] == "items":
        return settled_rest(place, facts)
    if place[0] == "others":
        return settled_others(place, facts)
    return settled_path(place[1], facts)


def settled_path(path, facts):
    """Return the place of what is at a path, as the answers tell it."""
    kind = facts.kinds.get(path)
    if kind == "none":
        return ("known", None)
    known = known_items(path, 0, facts) if kind == "row" else None
    return ("at", path) if known is None else ("known", known)


def settled_rest(place, facts):
    """Return the place of the rest of a row, as the answers tell it."""
    path, start = place[1:]
    if facts.kinds.get(path) != "row":
        return None
    known = known_items(path, start, facts)
    if known is not None:
        return ("known", known)
    return place if start > 0 else ("at", path)


def settled_others(place, facts):
    """Return the place of a record without some fields, as the answers tell it."""
    path, names = place[1:]
    if facts.kinds.get(path) != "record":
        return None
    # A field that the record has not by the answers is left out by itself.
    held = tuple([name for name in names if facts.fields.get(path + (name,)) is not False])
    return ("others", path, held) if len(held) > 0 else ("at", path)


def known_items(path, start, facts):
    """Return the list of a row's items from an index on, or None if the answers leave a choice."""
    if path not in facts.most:
        return None
    known = []
    # An item that may not be there has not been looked at, and is not known.
    for index in range(start, facts.most[path]):
        place = settled_path(path + (index,), facts)
        if place[0] != "known":
            return None
        known.append(place[1])
    return known

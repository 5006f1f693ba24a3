"""Places within values, as a run keeps them, and as they are told.

A path is a flat tuple: "value", or the number of a call, and behind it the
indexes and field names that lead from there inwards. It is flat so that it
can be the key of a dict however deep it leads.

A place is ("at", path); ("items", path, index), the rest of a row;
("others", path, names), a record without some fields; ("known", value), a
number of a term, or what answers leave no choice of; or ("step",), where a
step itself fails.
"""

VALUE = ("at", ("value",))
STEP = ("step",)


def result_place(number):
    """Return the place of what the call with a number gave."""
    return ("at", (number,))


def known_place(number):
    """Return the place of a number of a term."""
    return ("known", number)


def inner_path(place, key):
    """Return the path of an item or a field of a place, led from the row or record itself."""
    if place[0] == "items":
        return place[1] + (place[2] + key,)
    return place[1] + (key,)


def inner_place(place, key):
    """Return the place of an item or a field of a place."""
    return ("at", inner_path(place, key))


def items_from(place, index):
    """Return the place of the rest of a row from an index on, as a rest even from 0 on."""
    start = place[2] + index if place[0] == "items" else index
    return ("items", place[1], start)


def others_without(place, fields):
    """Return the place of a record without some fields, as others even of no field."""
    left_out = place[2] if place[0] == "others" else ()
    return ("others", place[1], tuple(sorted(set(left_out) | set(fields))))


def rest_of_row(place, index):
    """Return the place of the rest of a row from an index on."""
    rest = items_from(place, index)
    return rest if rest[2] > 0 else place


def rest_of_record(place, fields):
    """Return the place of a record without some fields."""
    rest = others_without(place, fields)
    return rest if len(rest[2]) > 0 else place


def told_path(path):
    """Return how a path is told."""
    told = ("value",) if path[0] == "value" else ("result", path[0])
    for key in path[1:]:
        told = ("field", told, key) if isinstance(key, str) else ("item", told, key)
    return told


def told_place(place):
    """Return how a place is told by itself."""
    if place[0] == "at":
        return told_path(place[1])
    if place[0] == "items":
        return ("items", told_path(place[1]), place[2])
    if place[0] == "others":
        return ("others", told_path(place[1]), list(place[2]))
    return place


def told_look(look):
    """Return how a look is told, whose place is a path."""
    return (look[0], told_path(look[1])) + look[2:]


def place_of(told):
    """Return the place that is told so, in any form, or None if no value can have it.

    A rest from 0 on stays one, and so do the others without no field: they
    are there only where a row, or a record, is.
    """
    word = told[0]
    if word == "value":
        return VALUE
    if word == "result":
        return result_place(told[1])
    if word == "known":
        return told
    whole = place_of(told[1])
    rest = "items" if word in ("item", "items") else "others"
    if whole is None or whole[0] not in ("at", rest):
        return None
    if word == "items":
        return items_from(whole, told[2])
    if word == "others":
        return others_without(whole, told[2])
    return inner_place(whole, told[2])


def look_of(told):
    """Return the look that is told so."""
    return (told[0], place_of(told[1])[1]) + told[2:]

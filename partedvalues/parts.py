"""What stands within parts and steps of the right form."""


def entries_of(part):
    """Return the list of the tuples (key, part, default) of a part's items or fields."""
    if part[0] == "row":
        return [(index, inner, default) for index, (inner, default) in enumerate(part[1])]
    if part[0] == "record":
        return list(part[1])
    return []


def parts_within(part):
    """Return the list of a part and all parts within it, in the sequence of its text."""
    found = [part]
    for entry in entries_of(part):
        found.extend(parts_within(entry[1]))
    return found


def names_of_part(part):
    """Return the list of the names of all name parts and rests of a part."""
    names = []
    for each in parts_within(part):
        if each[0] == "name":
            names.append(each[1])
        elif each[0] != "any" and each[2] is not None:
            names.append(each[2])
    return names


def parts_of_step(step):
    """Return the list of the parts that a step takes or tries."""
    if step[0] == "take":
        return [step[2]]
    if step[0] == "cases":
        return list(step[2])
    return []


def names_of_step(step):
    """Return the list of the names that a step may bind."""
    names = []
    if step[0] == "set":
        names.append(step[1])
    for part in parts_of_step(step):
        names.extend(names_of_part(part))
    return names

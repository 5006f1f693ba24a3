"""New copies of values, parts, terms and steps."""


def fresh(thing):
    """Return an equal thing in which every list and record is new and stands in one place alone."""
    if isinstance(thing, list):
        return [fresh(each) for each in thing]
    if isinstance(thing, tuple):
        return tuple([fresh(each) for each in thing])
    if isinstance(thing, dict):
        return {key: fresh(thing[key]) for key in thing}
    return thing

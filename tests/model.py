"""A second, naive way to take values apart, to compare the program with.

It takes the values themselves, with their places as they are told beside
them, notes each question that comes up, and strikes out afterwards those
whose answer follows from the ones ahead.
"""


class Failed(Exception):
    def __init__(self, place, why):
        super().__init__(place, why)
        self.end = ("failed", place, why)


class Missing(Exception):
    def __init__(self, number):
        super().__init__(number)
        self.number = number


class Model:
    def __init__(self, order, lacks, results):
        self.order, self.lacks, self.results = order, lacks, results
        self.names, self.calls, self.asked = {}, [], []

    def steps(self, steps, value):
        whole = (value, ("value",))
        try:
            for word, name, inner in steps:
                if word == "set":
                    self.names[name] = self.term(inner, ("step",))
                    continue
                if name is not None and name not in self.names:
                    raise Failed(("step",), ("unbound", name))
                thing = whole if name is None else self.names[name]
                if word == "take":
                    self.part(inner, thing)
                else:
                    self.cases(inner, thing)
        except Failed as failed:
            return self.calls, failed.end
        return self.calls, ("bound", [(name, self.names[name][0]) for name in sorted(self.names)])

    def cases(self, parts, thing):
        before = self.names
        for part in parts:
            self.names = dict(before)
            try:
                return self.part(part, thing)
            except Failed:
                pass
        self.names = before
        raise Failed(thing[1], "cases")

    def term(self, term, place):
        if term[0] == "number":
            return term[1], ("known", term[1])
        if term[0] == "read":
            if term[1] not in self.names:
                raise Failed(place, ("unbound", term[1]))
            return self.names[term[1]]
        worths = [self.term(inner, place)[0] for inner in term[2]]
        number = len(self.calls)
        if number == len(self.results):
            raise Missing(number)
        self.calls.append((term[1], worths))
        return self.results[number], ("result", number)

    def part(self, part, thing):
        if part[0] == "name":
            self.names[part[1]] = thing
        elif part[0] == "row":
            self.row(part, *thing)
        elif part[0] == "record":
            self.record(part, *thing)

    def row(self, part, value, place):
        if place[0] not in ("known", "items", "others"):
            self.asked.append((("what", place), kind(value)))
        if not isinstance(value, list):
            raise Failed(place, "kind")
        base, start = (place[1], place[2]) if place[0] == "items" else (place, 0)
        late = []
        for index, (inner, default) in enumerate(part[1]):
            spot = ("item", base, start + index)
            there = index < len(value)
            self.asked.append((("has", base, start + index), there))
            found = value[index] if there else None
            self.entry(inner, default, there, (found, spot), Failed(place, ("item", index)), late)
        many = len(part[1])
        if part[2] is not None:
            self.names[part[2]] = (value[many:], ("items", base, start + many) if start + many else base)
        self.defaults(late)

    def record(self, part, value, place):
        if place[0] not in ("known", "items", "others"):
            self.asked.append((("what", place), kind(value)))
        if not isinstance(value, dict):
            raise Failed(place, "kind")
        base, left_out = (place[1], place[2]) if place[0] == "others" else (place, [])
        late = []
        for field, inner, default in part[1]:
            if field not in left_out:
                self.asked.append((("has", base, field), field in value))
            thing = (value.get(field), ("field", base, field))
            self.entry(inner, default, field in value, thing, Failed(place, ("field", field)), late)
        fields = [field for field, _, _ in part[1]]
        if part[2] is not None:
            kept = {field: value[field] for field in value if field not in fields}
            names = sorted(set(left_out + fields))
            self.names[part[2]] = (kept, ("others", base, names) if names else base)
        self.defaults(late)

    def entry(self, part, default, there, thing, failed, late):
        if there and default is not None and self.lacks == "nothing":
            self.asked.append((("none", thing[1]), thing[0] is None))
            there = thing[0] is not None
        if there:
            self.part(part, thing)
        elif default is None:
            raise failed
        elif self.order == "late":
            late.append((part, default, thing[1]))
        else:
            self.defaults([(part, default, thing[1])])

    def defaults(self, wanted):
        for part, default, place in wanted:
            self.part(part, self.term(default, place))

    def looks(self):
        kept = []
        for look, answer in self.asked:
            if not any(follows(look, ahead, told) for ahead, told in kept):
                kept.append((look, answer))
        return kept


def kind(value):
    return {int: "integer", type(None): "none", dict: "record", list: "row"}[type(value)]


def follows(look, ahead, told):
    """Whether the answer of a look follows from one answer ahead."""
    if look == ahead:
        return True
    if look[1] != ahead[1]:
        return False
    if {look[0], ahead[0]} == {"what", "none"}:
        return look[0] == "none" or told
    if look[0] == ahead[0] == "has" and isinstance(look[2], int):
        return look[2] <= ahead[2] if told else look[2] >= ahead[2]
    return False


def model_take(program, value, results):
    """What the program does, and its looks; or the number of the result that is missing, twice."""
    model = Model(program.order, program.lacks, results)
    try:
        done = model.steps(program.steps, value)
    except Missing as missing:
        return missing.number, missing.number
    return done, model.looks()

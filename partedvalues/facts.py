"""What is known of values by the answers of looks.

A look is ("what", path), ("none", path) or ("has", path, key), with a path
of places.py.
"""

KINDS = ("integer", "none", "record", "row")


def kind_with(key):
    """Return the word for what has a key: a field's name or an item's index."""
    return "record" if isinstance(key, str) else "row"


class Facts:
    """The answers up to now, and what follows from them."""

    def __init__(self):
        self.kinds = {}
        self.filled = {}
        self.fields = {}
        self.least = {}
        self.most = {}

    def follows(self, look):
        """Return the answer of a look, or None if it does not follow."""
        if look[0] == "what":
            return self.kinds.get(look[1])
        if look[0] == "none":
            return self._is_none(look[1])
        return self._has(look[1], look[2])

    def answers(self, look):
        """Return the list of the answers that a look may have; there is one alone if it follows."""
        known = self.follows(look)
        if known is not None:
            return [known]
        if look[0] != "what":
            return [True, False]
        return [kind for kind in KINDS if kind != "none" or look[1] not in self.filled]

    def with_answer(self, look, answer):
        """Return new facts that keep the answer of one more look, unless it follows."""
        facts = Facts()
        facts.kinds = {path: self.kinds[path] for path in self.kinds}
        facts.filled = {path: self.filled[path] for path in self.filled}
        facts.fields = {path: self.fields[path] for path in self.fields}
        facts.least = {path: self.least[path] for path in self.least}
        facts.most = {path: self.most[path] for path in self.most}
        if self.follows(look) is None:
            facts.learn(look, answer)
        return facts

    def is_there(self, path):
        """Tell whether something is at a path, whatever the value and the results are."""
        for end in range(1, len(path)):
            ahead, key = path[:end], path[end]
            if self.kinds.get(ahead) != kind_with(key) or self._has(ahead, key) is not True:
                return False
        return True

    def may_ask(self, look):
        """Tell whether a look has an answer, whatever the value and the results are."""
        if look[0] == "has" and self.kinds.get(look[1]) != kind_with(look[2]):
            return False
        return self.is_there(look[1])

    def learn(self, look, answer):
        """Keep the answer of a look that does not follow."""
        path = look[1]
        if look[0] == "what":
            self.kinds[path] = answer
        elif look[0] == "has":
            self._learn_has(path, look[2], answer)
        elif answer:
            self.kinds[path] = "none"
        else:
            self.filled[path] = True

    def _is_none(self, path):
        if path in self.kinds:
            return self.kinds[path] == "none"
        return False if path in self.filled else None

    def _has(self, path, key):
        if isinstance(key, str):
            return self.fields.get(path + (key,))
        if key < self.least.get(path, 0):
            return True
        return False if path in self.most and key >= self.most[path] else None

    def _learn_has(self, path, key, answer):
        if isinstance(key, str):
            self.fields[path + (key,)] = answer
        elif answer:
            # A row that has an item has all items ahead of it.
            self.least[path] = key + 1
        else:
            self.most[path] = key

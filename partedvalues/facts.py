"""What is known of values by the answers of looks.

A look is ("what", path), ("none", path) or ("has", path, key), with a path
of places.py.
"""


class Facts:
    """The answers up to now, and what follows from them."""

    def __init__(self):
        self.kinds = {}
        self.filled = {}
        self.fields = {}
        self.least = {}
        self.most = {}

    def follows(self, look):
        """Return the answer of a look, or None if it does not follow."""
        if look[0] == "what":
            return self.kinds.get(look[1])
        if look[0] == "none":
            return self._is_none(look[1])
        return self._has(look[1], look[2])

    def learn(self, look, answer):
        """Keep the answer of a look that does not follow."""
        path = look[1]
        if look[0] == "what":
            self.kinds[path] = answer
        elif look[0] == "has":
            self._learn_has(path, look[2], answer)
        elif answer:
            self.kinds[path] = "none"
        else:
            self.filled[path] = True

    def _is_none(self, path):
        if path in self.kinds:
            return self.kinds[path] == "none"
        return False if path in self.filled else None

    def _has(self, path, key):
        if isinstance(key, str):
            return self.fields.get(path + (key,))
        if key < self.least.get(path, 0):
            return True
        return False if path in self.most and key >= self.most[path] else None

    def _learn_has(self, path, key, answer):
        if isinstance(key, str):
            self.fields[path + (key,)] = answer
        elif answer:
            # A row that has an item has all items ahead of it.
            self.least[path] = key + 1
        else:
            self.most[path] = key

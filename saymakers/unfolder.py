"""Sayings with a writing put for a maker, by numbers: they can be too great to be made."""

from saymakers.forms import MOST_DEEP, MOST_NAMES


class Unfolder:
    """Gives what sayings unfold to numbers; alike ones get the same."""

    def __init__(self, name, writing, letters):
        self.name = name
        self.writing = writing
        self._letters = letters
        self._numbers = {}
        self._nodes = []
        self._names = []
        self._depths = []

    def _node(self, name, kids):
        """The number of a maker on these numbers, or of a letter, whose kids are None."""
        key = (name, kids)
        if key not in self._numbers:
            within = () if kids is None else kids
            self._numbers[key] = len(self._nodes)
            self._nodes.append(key)
            self._names.append(1 + sum([self._names[kid] for kid in within]))
            self._depths.append(0 if kids is None else 1 + max([0] + [self._depths[kid] for kid in within]))
        return self._numbers[key]

    def number_of(self, saying):
        """The number of what the saying unfolds to."""
        if isinstance(saying, str):
            return self._node(saying, None)
        kids = tuple([self.number_of(part) for part in saying[1:]])
        if saying[0] != self.name:
            return self._node(saying[0], kids)
        return self._put(self.writing, dict(zip(self._letters, kids)))

    def _put(self, saying, table):
        """The number of a part of the writing with what the table tells for its letters."""
        if isinstance(saying, str):
            return table[saying] if saying in table else self._node(saying, None)
        return self._node(saying[0], tuple([self._put(part, table) for part in saying[1:]]))

    def is_great(self, number):
        """Whether what has this number goes beyond the bounds of sayings."""
        return self._names[number] > MOST_NAMES or self._depths[number] > MOST_DEEP

    def saying_of(self, number):
        """The saying of this number, which is not too great."""
        name, kids = self._nodes[number]
        return name if kids is None else (name,) + tuple([self.saying_of(kid) for kid in kids])

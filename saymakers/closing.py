"""All columns that writings by some helpers have, each with a shortest saying."""

from saymakers.errors import InvalidSize
from saymakers.makings import folded

_MOST_COLUMNS = 64


def maker_count(saying):
    """How many makers stand in the saying, each time counted."""
    if isinstance(saying, str):
        return 0
    return 1 + sum([maker_count(part) for part in saying[1:]])


class Closing:
    """The columns of sayings by the helpers, put by how many makers they take at least.

    What takes so many makers is a helper on columns that take one less together.
    """

    def __init__(self, columns, helpers):
        self.sayings = {}
        self._fresh = []
        for letter, column in columns.letters.items():
            self._put(column, letter)
        self._levels = [self._fresh]
        widest = 0
        top = 0
        for helper in helpers:
            widest = max([widest, len(columns.tables[helper]).bit_length() - 1])
        while len(self._levels) <= 1 + widest * top:
            self._fresh = []
            for helper in helpers:
                self._combine(columns.tables[helper], len(self._levels) - 1, (helper,))
            if self._fresh:
                top = len(self._levels)
            self._levels.append(self._fresh)

    def _put(self, column, saying):
        """Keeps the column, if it is new."""
        if column not in self.sayings:
            self.sayings[column] = saying
            self._fresh.append(column)
            if len(self.sayings) > _MOST_COLUMNS:
                raise InvalidSize("columns")

    def _combine(self, columns, makers, saying):
        """Puts what comes of columns by rows, those in the places that are left taking so many makers."""
        if len(columns) == 1 and makers == 0:
            self._put(columns[0], saying)
        if len(columns) == 2:
            low, high = columns
            for column in self._levels[makers]:
                found = (column & high) | (~column & low)
                if found not in self.sayings:
                    self._put(found, saying + (self.sayings[column],))
        elif len(columns) > 2:
            for many in range(makers + 1):
                for column in self._levels[many]:
                    self._combine(folded(columns, column), makers - many, saying + (self.sayings[column],))

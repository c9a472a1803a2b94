"""Pairs of signs and sayings as bits of integers."""

from saymakers.forms import text_of
from saymakers.signforms import signs_in_order


class PairBits:
    """Numbers sayings as they come; each pair (sign, saying) has a bit, a sheet of signs the bits of its pairs."""

    def __init__(self, count):
        self.count = count
        self.sayings = []
        self._numbers = {}

    def _number_of(self, saying):
        """The number of the saying."""
        text = text_of(saying)
        if text not in self._numbers:
            self._numbers[text] = len(self.sayings)
            self.sayings.append(saying)
        return self._numbers[text]

    def bits_of(self, pairs):
        """The bits of the pairs."""
        bits = 0
        for sign, saying in pairs:
            bits = bits | (1 << (self._number_of(saying) * self.count + sign))
        return bits

    def all_signs(self, saying):
        """The bits of all signs of the saying."""
        return ((1 << self.count) - 1) << (self._number_of(saying) * self.count)

    def sheet_of(self, bits):
        """The sheet of signs of these bits."""
        pairs = [(sign, saying) for saying in self.sayings for sign in range(self.count)]
        return signs_in_order([pair for at, pair in enumerate(pairs) if bits >> at & 1])

    def filled_premises(self, premises, sayings):
        """The bits of each premise with the sayings in the places."""
        return [self.bits_of([(sign, sayings[place - 1]) for sign, place in premise]) for premise in premises]

    def joined_end(self, saying, one, other):
        """What either end has of other sayings, and what both have of this one."""
        own = self.all_signs(saying)
        return ((one | other) & ~own) | (one & other)

"""Pairs of signs and sayings as bits of integers."""

from saymakers.numbered import Numbered
from saymakers.signforms import signs_in_order


class PairBits(Numbered):
    """Gives each pair (sign, saying) a bit; a sheet of signs is the bits of its pairs."""

    def __init__(self, count):
        Numbered.__init__(self)
        self.count = count

    def pair_bits(self, pairs):
        """The bits of the pairs."""
        bits = 0
        for sign, saying in pairs:
            bits = bits | (1 << (self.number_of(saying) * self.count + sign))
        return bits

    def all_signs(self, saying):
        """The bits of all signs of the saying."""
        return ((1 << self.count) - 1) << (self.number_of(saying) * self.count)

    def signs_of(self, bits):
        """The sheet of signs of these bits."""
        pairs = [(sign, saying) for saying in self.sayings for sign in range(self.count)]
        return signs_in_order([pair for at, pair in enumerate(pairs) if bits >> at & 1])

    def filled_premises(self, premises, sayings):
        """The bits of each premise with the sayings in the places."""
        return [self.pair_bits([(sign, sayings[place - 1]) for sign, place in premise]) for premise in premises]

    def joined_end(self, saying, one, other):
        """What either end has of other sayings, and what both have of this one."""
        own = self.all_signs(saying)
        return ((one | other) & ~own) | (one & other)

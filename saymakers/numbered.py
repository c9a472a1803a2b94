"""Sayings with numbers, so that lots of them are integers."""

from saymakers.forms import ordered_lot, text_of


class Numbered:
    """Sayings numbered as they come; the bit of a number stands for its saying."""

    def __init__(self):
        self.sayings = []
        self._numbers = {}

    def number_of(self, saying):
        """The number of the saying."""
        text = text_of(saying)
        if text not in self._numbers:
            self._numbers[text] = len(self.sayings)
            self.sayings.append(saying)
        return self._numbers[text]

    def bits_of(self, sayings):
        """The bits of all these sayings."""
        bits = 0
        for saying in sayings:
            bits = bits | (1 << self.number_of(saying))
        return bits

    def sheet_bits(self, sheet):
        """The bits of both sides of a sheet."""
        return self.bits_of(sheet[0]), self.bits_of(sheet[1])

    def lot_of_bits(self, bits):
        """The sayings of these bits, ascending."""
        return ordered_lot([saying for number, saying in enumerate(self.sayings) if bits >> number & 1])

    def sheet_of(self, left, right):
        """The sheet of these bits."""
        return self.lot_of_bits(left), self.lot_of_bits(right)


def bit_total(bits):
    """How many bits are 1."""
    return sum([bits >> at & 1 for at in range(bits.bit_length())])

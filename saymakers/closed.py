"""Lots of sayings closed under parts, and their worlds.

A saying of such a lot has its place there as its number, and the bit of this number stands for it.
A world is an integer, too: the bits of the sayings that are 1.
"""

from saymakers.books import truths_told
from saymakers.forms import parts_of
from saymakers.kinds import rows_of
from saymakers.numbered import Numbered


def let_truths(book, name, row):
    """The truths that the maker's rules let a saying with this row have."""
    told = truths_told(book, name, row)
    if not told:
        return (0, 1)
    return told if len(told) == 1 else ()


class ClosedLot(Numbered):
    """Sayings of a book and all their parts, numbered ascending."""

    def __init__(self, book, sayings):
        Numbered.__init__(self)
        self.book = book
        self.every = self.bits_of(parts_of(sayings))
        self.letters = self.bits_of([saying for saying in self.sayings if isinstance(saying, str)])
        tables = {}
        for name, places in book.makers:
            tables[name] = {row: let_truths(book, name, row) for row in rows_of(places)}
        # For each saying with a maker: the numbers of its places, and what its rows let.
        self._let = [self._row_table(saying, tables) for saying in self.sayings]

    def _row_table(self, saying, tables):
        """(numbers of what stands in the places, truths let by rows); None for a letter."""
        if isinstance(saying, str):
            return None
        return [self.number_of(part) for part in saying[1:]], tables[saying[0]]

    def truths_let(self, number, world):
        """The truths that the saying of this number may have in a world that has its parts."""
        if self._let[number] is None:
            return (0, 1)
        places, table = self._let[number]
        return table[tuple([world >> place & 1 for place in places])]

    def worlds(self, left=0, right=0):
        """All worlds, ascending by truths, in which the left bits are 1 and the right ones 0."""
        found = [0]
        for number in range(len(self.sayings)):
            longer = []
            for world in found:
                for truth in self.truths_let(number, world):
                    if not (right if truth else left) >> number & 1:
                        longer.append(world | truth << number)
            found = longer
        return found

    def world_pairs(self, world):
        """The world as a tuple of (saying, truth)."""
        return tuple([(saying, world >> number & 1) for number, saying in enumerate(self.sayings)])


def breaks(world, sheet):
    """Whether in the world all left sayings of the sheet, told in bits, are 1 and all right ones 0."""
    return not sheet[0] & ~world and not sheet[1] & world


class FilledRule:
    """A rule on a saying of a lot: its number, what stands in its places, its premises as pairs of bits.

    The bits `left` and `right` are those of the saying, on the rule's side.
    """

    def __init__(self, lot, number, saying):
        _, side, premises = lot.book.rules[number]
        own = lot.bits_of((saying,))
        self.left = own if side == "left" else 0
        self.right = own if side == "right" else 0
        self.number = number
        self.sayings = saying[1:]
        self.premises = tuple([tuple([lot.bits_of([saying[place] for place in places]) for places in premise])
                               for premise in premises])


def filled_rules(lot):
    """The rules on all sayings of the lot, saying after saying."""
    made = [saying for saying in lot.sayings if not isinstance(saying, str)]
    return [FilledRule(lot, number, saying) for saying in made
            for number, rule in enumerate(lot.book.rules) if rule[0] == saying[0]]

"""Trees of facts: how a sheet follows from facts, and the joins that say the same.

Sheets over a closed lot are bits of its numbers.
"""

from saymakers.closed import breaks
from saymakers.numbered import bit_total
from saymakers.prover import Prover
from saymakers.shorten import lies_in


def world_against(lot, facts, sheet):
    """The first world of the lot that keeps all facts and not the sheet, or None."""
    left, right = lot.sheet_bits(sheet)
    told = [lot.sheet_bits(fact) for fact in facts]
    for world in lot.worlds(left, right):
        if not any([breaks(world, fact) for fact in told]):
            return world
    return None


class Tree:
    """How a sheet follows: by a part, or by a fact's number and a tree for each of its sayings."""

    def __init__(self, left, right, part, number, kids):
        self.left = left
        self.right = right
        self.part = part
        self.number = number
        self.kids = kids


class Follower:
    """Finds how sheets over a closed lot of a calm book follow from facts, which are sheets over it, too."""

    def __init__(self, lot, facts):
        self.lot = lot
        self.prover = Prover(lot, lot.every)
        self._facts = facts
        self._bits = [lot.sheet_bits(fact) for fact in facts]

    def tree(self, left, right):
        """A tree of the sheet, known to follow from the facts."""
        return self._grown(left, right, self.lot.worlds(left, right))

    def _grown(self, left, right, against):
        """A tree of the sheet that just these worlds break.

        A world that breaks it keeps each fact taken before, so that no way comes to a fact twice.
        """
        if not against:
            return Tree(left, right, self.prover.proved(left, right), None, ())
        number = self._best_fact(left, right, against)
        kids = []
        for more_left, more_right in self._branches(number):
            fewer = [world for world in against if not more_left & ~world and not more_right & world]
            kids.append(self._grown(left | more_left, right | more_right, fewer))
        return Tree(left, right, None, number, tuple(kids))

    def _branches(self, number):
        """For each saying of the fact, the left ones first, its bit put on the other side."""
        left, right = self._bits[number]
        bits = [1 << at for at in range(len(self.lot.sayings))]
        return [(0, bit) for bit in bits if left & bit] + [(bit, 0) for bit in bits if right & bit]

    def _best_fact(self, left, right, against):
        """The fact each of whose sayings brings something, with the fewest that leave worlds."""
        some = 0
        every = self.lot.every
        for world in against:
            some = some | world
            every = every & world
        best = None
        fewest = 0
        for number, (fact_left, fact_right) in enumerate(self._bits):
            if fact_left & right or fact_right & left:
                continue
            many = bit_total(fact_left & ~every) + bit_total(fact_right & some)
            if best is None or many < fewest:
                best = number
                fewest = many
        return best

    def told_tree(self, tree):
        """The tree as a nested tuple."""
        if tree.part is not None:
            return ("plain", self.prover.bench.proof_with_end(tree.part, tree.left, tree.right))
        return ("fact", tree.number, tuple([self.told_tree(kid) for kid in tree.kids]))

    def joined_proof(self, tree):
        """A proof of the tree's sheet by joins on sayings of facts."""
        return self.prover.bench.proof_with_end(self._joined(tree), tree.left, tree.right)

    def _joined(self, tree):
        """A part whose end lies within the tree's sheet."""
        if tree.part is not None:
            return tree.part
        kids = [self._joined(kid) for kid in tree.kids]
        for kid in kids:
            if lies_in(kid.left, kid.right, tree.left, tree.right):
                return kid
        fact = self._facts[tree.number]
        whole = self.prover.bench.told_part(tree.number, fact)
        # What is deepest is joined last, as proofs must not get too deep.
        # A start of the fact's own saying would leave all as it is.
        for _, at in sorted([(kid.deep, at) for at, kid in enumerate(kids) if kid.word != "start"]):
            if at < len(fact[0]):
                whole = self.prover.bench.join_part(fact[0][at], kids[at], whole)
            else:
                whole = self.prover.bench.join_part(fact[1][at - len(fact[0])], whole, kids[at])
        return whole

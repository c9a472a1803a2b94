"""Proofs without joins, found by going up from the sheet that is to be proved.

A rule whose filled premises all bring something may always be taken: if the sheet has a proof,
so have the premises beside it. So no step is ever taken back.
"""

from saymakers.closed import filled_rules
from saymakers.parts import Bench
from saymakers.shorten import lies_in


def lot_bench(lot):
    """A bench whose numbers of sayings are those of the lot."""
    bench = Bench(lot.book)
    bench.bits_of(lot.sayings)
    return bench


def open_premises(filled, left, right):
    """The premises of a filled rule beside the sheet; None if the rule does not fit or one brings nothing."""
    if not lies_in(filled.left, filled.right, left, right):
        return None
    sheets = []
    for more_left, more_right in filled.premises:
        if lies_in(more_left, more_right, left, right):
            return None
        sheets.append((left | more_left, right | more_right))
    return sheets


class Prover:
    """Proves sheets over a closed lot; starts stand only at the sayings of these bits."""

    def __init__(self, lot, starts):
        self.lot = lot
        self.bench = lot_bench(lot)
        self.stuck = None
        self._starts = starts
        self._rules = filled_rules(lot)
        self._kept = {}

    def proved(self, left, right):
        """A part whose end lies within the sheet; None if there is none, and `stuck` is a greater sheet then."""
        both = left & right & self._starts
        if both:
            return self.bench.start_part(self.lot.sayings[both.bit_length() - 1])
        if (left, right) not in self._kept:
            self._kept[(left, right)] = self._worked(left, right)
        return self._kept[(left, right)]

    def _worked(self, left, right):
        """What the best rule comes to."""
        best = self._best_rule(left, right)
        if best is None:
            self.stuck = (left, right)
            return None
        filled, sheets = best
        kids = []
        for more_left, more_right in sheets:
            kid = self.proved(more_left, more_right)
            if kid is None or lies_in(kid.left, kid.right, left, right):
                return kid
            kids.append(kid)
        return self.bench.rule_part(filled.number, filled.sayings, tuple(kids))

    def _best_rule(self, left, right):
        """(filled rule, its sheets) with the fewest sheets that are no starts, or None."""
        best = None
        fewest = 0
        for filled in self._rules:
            sheets = open_premises(filled, left, right)
            if sheets is None:
                continue
            many = len([each for each in sheets if not each[0] & each[1] & self._starts])
            if best is None or many < fewest:
                best = (filled, sheets)
                fewest = many
        return best


def sheet_proof(lot, sheet):
    """A proof without joins of a sheet over the lot, known to have one."""
    prover = Prover(lot, lot.every)
    left, right = lot.sheet_bits(sheet)
    return prover.bench.proof_with_end(prover.proved(left, right), left, right)


def proof_or_world(lot, sheet):
    """(a proof of the sheet without joins, None), or (None, the lot's first world that does not keep it)."""
    left, right = lot.sheet_bits(sheet)
    worlds = lot.worlds(left, right)
    return (None, lot.world_pairs(worlds[0])) if worlds else (sheet_proof(lot, sheet), None)

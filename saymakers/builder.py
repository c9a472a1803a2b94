"""Building a rule of the others: from its premises as facts to its saying.

A row has 1, 0 or None (unset) for each place; its sheet has the letters of 1 on the left, those of 0
on the right, and the rule's saying on the rule's side.
"""

from saymakers.books import filled_premise
from saymakers.kinds import PLACE_LETTERS
from saymakers.parts import Bench
from saymakers.shorten import lies_in


def is_refuted(premise, row):
    """Whether the row has 1 in all left places of the premise and 0 in all right ones."""
    left, right = premise
    return all([row[place - 1] == 1 for place in left] + [row[place - 1] == 0 for place in right])


def sheet_of_rule(book, rule):
    """(the rule's premises of letters, ascending, the sheet with its saying alone)."""
    name, side, premises = rule
    letters = PLACE_LETTERS[:book.maker_places(name)]
    whole = ((name,) + letters,)
    return tuple([filled_premise(premise, letters) for premise in premises]), (
        (whole, ()) if side == "left" else ((), whole))


class Builder:
    """Proves a rule's sheet from its premises in a calm book, with joins on letters of these places alone."""

    def __init__(self, book, rule, places):
        self.stuck = None
        self._rule = rule
        self._places = places
        self._bench = Bench(book)
        self._facts, self._sheet = sheet_of_rule(book, rule)
        self._letters = PLACE_LETTERS[:book.maker_places(rule[0])]
        self._others = [(number, other[2]) for number, other in enumerate(book.rules) if other[:2] == rule[:2]]

    def found_proof(self):
        """The proof; None if there is none, and `stuck` is a row then that bars it."""
        part = self._built((None,) * len(self._letters))
        if part is None:
            return None
        left, right = self._bench.sheet_bits(self._sheet)
        return self._bench.proof_with_end(part, left, right)

    def _row_bits(self, row):
        """The bits of the row's sheet."""
        left, right = self._bench.sheet_bits(self._sheet)
        left = left | self._bench.bits_of([letter for letter, truth in zip(self._letters, row) if truth == 1])
        return left, right | self._bench.bits_of([letter for letter, truth in zip(self._letters, row) if truth == 0])

    def _is_enough(self, part, row):
        """Whether the part's end lies within the row's sheet."""
        left, right = self._row_bits(row)
        return lies_in(part.left, part.right, left, right)

    def _built(self, row):
        """A part whose end lies within the row's sheet, or None.

        Where each rule has a premise that the row refutes, none leads on, whatever was done before.
        """
        for number, premise in enumerate(self._rule[2]):
            if is_refuted(premise, row):
                return self._bench.told_part(number, self._facts[number])
        for place in self._places:
            if row[place - 1] is None:
                return self._by_join(row, place)
        for number, premises in self._others:
            if not any([is_refuted(premise, row) for premise in premises]):
                return self._by_rule(row, number, premises)
        self.stuck = row
        return None

    def _by_join(self, row, place):
        """A join on the place's letter, or one of both proofs if that is enough."""
        kids = []
        for truth in (0, 1):
            part = self._built(row[:place - 1] + (truth,) + row[place:])
            if part is None or self._is_enough(part, row):
                return part
            kids.append(part)
        return self._bench.join_part(self._letters[place - 1], kids[0], kids[1])

    def _by_rule(self, row, number, premises):
        """The rule on the letters, or one of the proofs of its premises if that is enough."""
        kids = []
        for premise in premises:
            part = self._premise_part(row, premise)
            if part is None or self._is_enough(part, row):
                return part
            kids.append(part)
        return self._bench.rule_part(number, self._letters, tuple(kids))

    def _premise_part(self, row, premise):
        """A part whose end lies within the row's sheet with the premise beside it, or None."""
        greater = list(row)
        for truth, side in ((1, premise[0]), (0, premise[1])):
            for place in side:
                if greater[place - 1] == 1 - truth:
                    return self._bench.start_part(self._letters[place - 1])
                greater[place - 1] = truth
        return self._built(tuple(greater))

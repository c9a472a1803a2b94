"""The judge: which sheets have proofs, and by how few rules."""

from saymakers.books import need_book
from saymakers.closed import ClosedLot, filled_rules
from saymakers.court import even_truths, is_calm, nonsense_proof
from saymakers.errors import InvalidSize
from saymakers.forms import name_count
from saymakers.kinds import SIDES, is_number
from saymakers.needs import need_own_sheet
from saymakers.premises import all_hold
from saymakers.proofs import proof_holds
from saymakers.prover import lot_bench, open_premises, proof_or_world
from saymakers.worlds import breaks_sheet

_MOST_SAYINGS = 14
_MOST_FOR_USES = 8
_MOST_NAMES = 60
_LETTER = "q"


def _need_judged(book, sheet, most):
    """(the sheet in order, the lot of its sayings and parts), not more than so many."""
    whole = need_own_sheet(need_book(book), sheet)
    lot = ClosedLot(book, whole[0] + whole[1])
    if len(lot.sayings) > most:
        raise InvalidSize("sayings")
    return whole, lot


def sheet_paper(book, sheet):
    """A proof of the sheet, or what bars it: a world, in a book that is not calm an even truth."""
    whole, lot = _need_judged(book, sheet, _MOST_SAYINGS)
    if not is_calm(book):
        return _uneven_paper(book, whole)
    proof, world = proof_or_world(lot, whole)
    return ("proof", proof) if world is None else ("world", world)


def _barring_truths(book, sheet):
    """The even truths that the sheet is not kept by, all sayings having them, ascending."""
    return [truth for truth in even_truths(book) if not sheet[truth]]


def _uneven_paper(book, sheet):
    """The paper of a sheet in a book that is not calm."""
    if any([name_count(saying) > _MOST_NAMES for saying in sheet[0] + sheet[1]]):
        raise InvalidSize("sayings")
    barring = _barring_truths(book, sheet)
    if barring:
        return ("even", barring[0])
    both = [saying for saying in sheet[0] if saying in sheet[1]]
    if both:
        small = (tuple(both[:1]), tuple(both[:1]))
        proof = ("start", both[0])
    else:
        small = (sheet[0][:1], sheet[1][:1])
        proof = _proof_from_nonsense(book, small)
    return ("proof", proof if small == sheet else ("thin", sheet, proof))


def _proof_from_nonsense(book, sheet):
    """A proof of a sheet with at most one saying on each side that no even truth bars."""
    left, right = sheet
    if left and right:
        return nonsense_proof(book, left[0], right[0])
    # A letter stands in for what is lacking, as a great saying could be too great for a rule.
    if left:
        return ("join", _LETTER, nonsense_proof(book, left[0], _LETTER), _letter_alone(book, "left"))
    if right:
        return ("join", _LETTER, _letter_alone(book, "right"), nonsense_proof(book, _LETTER, right[0]))
    return ("join", _LETTER, _letter_alone(book, "right"), _letter_alone(book, "left"))


def _letter_alone(book, side):
    """A proof of the letter alone on this side, by a rule of the side that is awake with it in all places."""
    truth = 1 - SIDES.index(side)
    rows = [(truth,) * book.maker_places(rule[0]) for rule in book.rules]
    awake = [number for number, rule in enumerate(book.rules) if rule[1] == side and all_hold(rule[2], rows[number])]
    name, _, premises = book.rules[awake[0]]
    sayings = (_LETTER,) * book.maker_places(name)
    said = ("rule", awake[0], sayings, (("start", _LETTER),) * len(premises))
    whole = (name,) + sayings
    if side == "right":
        return ("join", whole, said, nonsense_proof(book, whole, _LETTER))
    return ("join", whole, nonsense_proof(book, _LETTER, whole), said)


def sheet_holds(book, sheet, value):
    """Whether the value is such a paper, of any proof, world or even truth."""
    whole = need_own_sheet(need_book(book), sheet)
    if not isinstance(value, tuple) or len(value) != 2:
        return False
    if value[0] == "proof":
        return proof_holds(book, whole, value[1])
    if value[0] == "world":
        return is_calm(book) and breaks_sheet(book, whole, value[1])
    return value[0] == "even" and not is_calm(book) and is_number(value[1]) and value[1] in _barring_truths(book, whole)


class FewestUses:
    """Proves sheets over a closed lot by as few uses of rules as can be."""

    def __init__(self, lot):
        self.lot = lot
        self.bench = lot_bench(lot)
        self._rules = filled_rules(lot)
        self._kept = {}

    def proved(self, left, right):
        """(uses, a part whose end lies within the sheet), or None."""
        if left & right:
            return 0, self.bench.start_part(self.lot.sayings[(left & right).bit_length() - 1])
        if (left, right) not in self._kept:
            self._kept[(left, right)] = self._worked(left, right)
        return self._kept[(left, right)]

    def _worked(self, left, right):
        """The best of all rules."""
        best = None
        for filled in self._rules:
            sheets = open_premises(filled, left, right)
            if sheets is None:
                continue
            found = self._all_proved(sheets)
            if found is not None and (best is None or found[0] + 1 < best[0]):
                best = (found[0] + 1, self.bench.rule_part(filled.number, filled.sayings, found[1]))
        return best

    def _all_proved(self, sheets):
        """(uses in all, a part for each of the sheets), or None."""
        uses = 0
        parts = []
        for left, right in sheets:
            found = self.proved(left, right)
            if found is None:
                return None
            uses += found[0]
            parts.append(found[1])
        return uses, tuple(parts)


def fewest_uses(book, sheet):
    """(the fewest uses of rules in a proof of the sheet without joins, such a proof), or None."""
    whole, lot = _need_judged(book, sheet, _MOST_FOR_USES)
    left, right = lot.sheet_bits(whole)
    search = FewestUses(lot)
    found = search.proved(left, right)
    return None if found is None else (found[0], search.bench.proof_with_end(found[1], left, right))

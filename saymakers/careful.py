"""Careful proofs, which say one thing at most on the right, and the heaps that bar sheets from them."""

from saymakers.books import need_book
from saymakers.carefulsearch import NOTHING, CarefulSearch, greatest_heap, heap_from
from saymakers.closed import ClosedLot, breaks, filled_rules
from saymakers.court import bad_pairs
from saymakers.errors import InvalidFacts, InvalidSize
from saymakers.heaps import (
    formed_heap, need_careful, need_careful_sheet, need_faultless, own_careful_sheet, own_closed_lot)
from saymakers.kinds import is_sequence
from saymakers.needs import need_own_saying
from saymakers.numbered import Numbered
from saymakers.proofreader import ProofReader, listed_parts, proofs_within

_MOST_DEEP = 101
_MOST_PARTS = 7
_TRUE_LETTER = "q"
_FALSE_LETTER = "r"


def _need_careful_facts(book, facts):
    """The facts in order, each a careful sheet of the book's sayings."""
    if not is_sequence(facts):
        raise InvalidFacts(-1)
    told = []
    for at, value in enumerate(facts):
        fact = own_careful_sheet(book, value)
        if fact is None:
            raise InvalidFacts(at)
        told.append(fact)
    return tuple(told)


class CarefulReader:
    """Reads careful proofs; an end is (bits of the left sayings, number of the right one or -1)."""

    def __init__(self, book, facts):
        self.book = book
        self.numbered = Numbered()
        self._facts = facts
        self._reader = ProofReader(book, facts)

    def read_end(self, value):
        """The end of a careful proof as a sheet; None for any other value."""
        parts = self._listed(value)
        if parts is None:
            return None
        ends = []
        for part in reversed(parts):
            # The ends of the proofs within lie on top, the first one's uppermost.
            kids = [ends.pop() for kid in proofs_within(part)]
            found = self._part_end(part, kids)
            if found is None:
                return None
            ends.append(found)
        left, number = ends[0]
        return self.numbered.lot_of_bits(left), self.numbered.lot_of_bits(_bit(number))

    def _listed(self, value):
        """All parts of a value that has the form of a proof, in order of their numbers; else None."""
        parts = []
        rest = [(value, 1)]
        while rest:
            part, deep = rest.pop()
            if deep > _MOST_DEEP or not self._reader.is_formed(part):
                return None
            parts.append(part)
            rest.extend([(kid, deep + 1) for kid in reversed(proofs_within(part))])
        return parts

    def _sheet_state(self, sheet):
        """A careful sheet as an end."""
        left, right = self.numbered.sheet_bits(sheet)
        return left, right.bit_length() - 1

    def _part_end(self, part, kids):
        """The end of a part, those within having these ends, or None."""
        if part[0] == "start":
            return self._sheet_state(((part[1],), (part[1],)))
        if part[0] == "told":
            return self._sheet_state(self._facts[part[1]])
        if part[0] == "thin":
            return self._thin_end(part[1], kids[0])
        if part[0] == "rule":
            return self._rule_end(part[1], part[2], kids)
        own = self.numbered.number_of(part[1])
        (one_left, one_right), (other_left, other_right) = kids
        if one_right not in (NOTHING, own):
            return None
        return one_left | (other_left & ~_bit(own)), other_right

    def _thin_end(self, sheet, kid):
        """The end of a thinning by a sheet, or None."""
        if len(sheet[1]) > 1:
            return None
        left, right = self._sheet_state(sheet)
        if right != NOTHING and kid[1] not in (NOTHING, right):
            return None
        return kid[0] | left, kid[1] if right == NOTHING else right

    def _rule_end(self, number, sayings, kids):
        """The end of a rule, or None."""
        name, side, premises = self.book.rules[number]
        own = self.numbered.number_of((name,) + sayings)
        left = _bit(own) if side == "left" else 0
        right = own if side == "right" else NOTHING
        for (kid_left, kid_right), (lefts, rights) in zip(kids, premises):
            left = left | (kid_left & ~self.numbered.bits_of([sayings[place - 1] for place in lefts]))
            if kid_right == NOTHING:
                continue
            if rights:
                if kid_right != self.numbered.number_of(sayings[rights[0] - 1]):
                    return None
            elif side == "right" or right not in (NOTHING, kid_right):
                return None
            else:
                right = kid_right
        return left, right


def _bit(number):
    """The bit of the number; none for -1."""
    return 0 if number == NOTHING else 1 << number


def careful_end(book, facts, value):
    """The end of a careful proof from the facts; None for any other value."""
    told = _need_careful_facts(need_careful(need_book(book)), facts)
    return CarefulReader(book, told).read_end(value)


def _small_lot(book, sayings):
    """The lot of the sayings and all their parts, if it is small."""
    lot = ClosedLot(book, sayings)
    if len(lot.sayings) > _MOST_PARTS:
        raise InvalidSize("sayings")
    return lot


def careful_paper(book, facts, sheet):
    """A careful proof of the sheet with joins on sayings of facts alone, or a heap that bars it."""
    told = _need_careful_facts(need_careful(need_book(book)), facts)
    whole = need_careful_sheet(book, sheet)
    lot = _small_lot(book, [saying for each in told + (whole,) for side in each for saying in side])
    bits = [lot.sheet_bits(fact) for fact in told]
    left, right = lot.sheet_bits(whole)
    kept = greatest_heap(lot, bits)
    barring = [world for world in kept if breaks(world, (left, right))]
    if barring:
        return ("heap", tuple(lot.sayings), heap_from(lot, kept, barring[0]))
    proof = CarefulSearch(lot, bits).smallest_proof(left, right)
    if CarefulReader(book, told).read_end(proof) == whole:
        return ("proof", proof)
    return ("proof", ("thin", whole, proof))


def careful_holds(book, facts, sheet, value):
    """Whether the value is such a proof or such a heap, of any size, on any lot that has all sayings."""
    told = _need_careful_facts(need_careful(need_book(book)), facts)
    whole = need_careful_sheet(book, sheet)
    if not isinstance(value, tuple) or not value:
        return False
    if value[0] == "proof":
        return len(value) == 2 and _is_careful_proof(book, told, whole, value[1])
    return value[0] == "heap" and len(value) == 3 and _is_barring(book, told, whole, value[1], value[2])


def _is_careful_proof(book, facts, sheet, value):
    """Whether the value is a careful proof of the sheet with joins on sayings of facts alone."""
    if CarefulReader(book, facts).read_end(value) != sheet:
        return False
    told = [saying for fact in facts for side in fact for saying in side]
    return all([part[0] != "join" or part[1] in told for part in listed_parts(value)])


def _is_barring(book, facts, sheet, sayings, value):
    """Whether the values are a lot that has all sayings and a heap on it that keeps the facts, not the sheet."""
    lot = own_closed_lot(book, sayings)
    if lot is None or not all([saying in lot.sayings for each in facts + (sheet,) for side in each for saying in side]):
        return False
    worlds = formed_heap(lot, value)
    if worlds is None:
        return False
    told = [lot.sheet_bits(fact) for fact in facts]
    whole = lot.sheet_bits(sheet)
    if any([breaks(bits, fact) for bits, above in worlds for fact in told]):
        return False
    return any([breaks(bits, whole) for bits, above in worlds])


def said_alone(book, saying):
    """The number of the first right rule for the saying whose premises have careful proofs, or None."""
    whole = need_own_saying(need_careful(need_book(book)), saying)
    lot = _small_lot(book, (whole,))
    kept = greatest_heap(lot, ())
    own = lot.bits_of((whole,))
    for rule in filled_rules(lot):
        if rule.right == own and not any([breaks(world, premise) for premise in rule.premises for world in kept]):
            return rule.number
    return None


def careful_court(book):
    """Whether the book is calm, or two rules that say too much and a careful proof by them."""
    pairs = bad_pairs(need_faultless(need_book(book)))
    if not pairs:
        return ("calm",)
    right, left, rows = pairs[0]
    row = rows[0]
    sayings = tuple([_TRUE_LETTER if truth else _FALSE_LETTER for truth in row])
    one = _rule_from_fact(book, right, row, sayings)
    proof = ("join", (book.rules[right][0],) + sayings, one, _rule_from_fact(book, left, row, sayings))
    sheet = ((_TRUE_LETTER,), ())
    told = (((_FALSE_LETTER,), ()),)
    if CarefulReader(book, told).read_end(proof) != sheet:
        proof = ("thin", sheet, proof)
    return ("clash", right, left, row, proof)


def _rule_from_fact(book, number, row, sayings):
    """The rule that is awake in the row, its premises by the fact that r is not, or by q."""
    proofs = []
    for left, right in book.rules[number][2]:
        barred = [place for place in left if row[place - 1] == 0]
        proofs.append(("told", 0) if barred else ("start", _TRUE_LETTER))
    return ("rule", number, sayings, tuple(proofs))

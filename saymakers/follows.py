"""Which rules follow carefully, and whether what follows carefully is what follows at all."""

from saymakers.books import filled_premise, need_book
from saymakers.carefulsearch import greatest_heap
from saymakers.closed import ClosedLot, breaks
from saymakers.errors import InvalidRules, Refused
from saymakers.heaps import has_fault, need_careful
from saymakers.kinds import PLACE_LETTERS, rows_of
from saymakers.premises import all_hold, holds_in
from saymakers.rules import formed_rule

_END_LETTER = "e"


def _need_faultless_rule(book, rule):
    """The rule in order, for a maker of the book and without fault."""
    found = formed_rule(rule, dict(book.makers))
    if found is None or any([has_fault(premise) for premise in found[2]]):
        raise InvalidRules(-1)
    return found


def _own_saying(book, name):
    """The maker's saying of its letters."""
    return (name,) + PLACE_LETTERS[:book.maker_places(name)]


def _case_of(book, rule):
    """(facts, sheet) of a rule that is known to be right."""
    name, side, premises = rule
    whole = _own_saying(book, name)
    filled = [filled_premise(premise, whole[1:]) for premise in premises]
    said = ((), (whole,))
    if side == "right":
        return tuple(filled), said
    facts = [(left, right or (_END_LETTER,)) for left, right in filled]
    return tuple(facts) + (said,), ((), (_END_LETTER,))


def rule_case(book, rule):
    """(facts, sheet): the rule follows if the sheet does from the facts."""
    need_careful(need_book(book))
    return _case_of(book, _need_faultless_rule(book, rule))


def rule_follows(book, rule):
    """Whether what the rule says has a careful proof in the book."""
    need_careful(need_book(book))
    return _follows(book, _need_faultless_rule(book, rule))


def _follows(book, rule):
    """Whether no heap of a calm book without fault bars the rule's sheet."""
    facts, sheet = _case_of(book, rule)
    lot = ClosedLot(book, [saying for each in facts + (sheet,) for side in each for saying in side])
    whole = lot.sheet_bits(sheet)
    kept = greatest_heap(lot, [lot.sheet_bits(fact) for fact in facts])
    return not any([breaks(world, whole) for world in kept])


def careful_apart(one, other):
    """(which, rule) for the first rule of one of the books that does not follow in the other one, or None."""
    books = (need_careful(need_book(one)), need_careful(need_book(other)))
    if one.makers != other.makers:
        raise Refused(-1)
    for which, book in enumerate(books):
        for rule in book.rules:
            if not _follows(books[1 - which], rule):
                return which, rule
    return None


def _above(row, rows):
    """Those of the rows that are 1 wherever the row is."""
    return [more for more in rows if all([truth <= other for truth, other in zip(row, more)])]


def _quiet_rows(rules, rows):
    """The quiet ones of all rows, by the premises of the maker's left rules."""
    quiet = []
    # What is above a row stands behind it, so the last rows are told first.
    for row in reversed(rows):
        above = _above(row, quiet)
        awake = [premises for premises in rules if all_hold(premises, row)]
        if all([_fails_in_some(premises, above) for premises in awake]):
            quiet.append(row)
    return quiet


def _fails_in_some(premises, rows):
    """Whether a premise with a right place fails in one of the rows."""
    return any([not holds_in(premise, row) for premise in premises if premise[1] for row in rows])


def _first_apart(book, name):
    """(row, whether a right rule is awake there): the first row at which careful proofs lack one; else None."""
    rows = rows_of(book.maker_places(name))
    rights, lefts = [[rule[2] for rule in book.rules if rule[:2] == (name, side)] for side in ("right", "left")]
    quiet = _quiet_rows(lefts, rows)
    for row in rows:
        above = _above(row, rows)
        if any([all_hold(premises, row) for premises in rights]):
            if not any([all([all_hold(premises, more) for more in above]) for premises in rights]):
                return row, True
        elif row in quiet and any([all_hold(premises, row) for premises in lefts]):
            return row, False
    return None


def plain_apart(book):
    """(maker, row, facts, sheet): the sheet follows from the facts, and not carefully; None if there is none such."""
    for name, _ in need_careful(need_book(book)).makers:
        found = _first_apart(book, name)
        if found is not None:
            end = ((), (_END_LETTER,))
            return (name, found[0], _row_facts(_own_saying(book, name), found[0], found[1]), end)
    return None


def _row_facts(whole, row, right):
    """Facts that tell the letters the row but for the end letter, and the saying what no rule lets it be."""
    facts = [((), (letter,)) if truth else ((letter,), (_END_LETTER,)) for letter, truth in zip(whole[1:], row)]
    return tuple(facts) + (((whole,), (_END_LETTER,)) if right else ((), (whole,)),)

"""Careful books and heaps of worlds, some of which stand above others."""

from saymakers.books import need_book
from saymakers.closed import ClosedLot, breaks, filled_rules
from saymakers.court import need_calm
from saymakers.errors import InvalidLot, InvalidSheet, InvalidWorld, Refused
from saymakers.forms import own_saying, own_sheet, rank_of
from saymakers.kinds import formed_row, is_number_below, is_sequence, lot_of


def has_fault(premise):
    """Whether the premise has more than one place on the right."""
    return len(premise[1]) > 1


def careful_fault(book):
    """(rule, premise) of the first premise with more than one place on the right, or None."""
    for rule, (_, _, premises) in enumerate(need_book(book).rules):
        for number, premise in enumerate(premises):
            if has_fault(premise):
                return rule, number
    return None


def need_careful(book):
    """The book, if it is calm and without fault."""
    need_calm(book)
    return need_faultless(book)


def need_faultless(book):
    """The book, if each premise has at most one place on the right."""
    fault = careful_fault(book)
    if fault is not None:
        raise Refused(fault)
    return book


def own_careful_sheet(book, value):
    """The value as a sheet in order, of the book's sayings, with at most one on the right; else None."""
    sheet = own_sheet(value, dict(book.makers))
    return None if sheet is None or len(sheet[1]) > 1 else sheet


def need_careful_sheet(book, value):
    """The value as such a sheet."""
    sheet = own_careful_sheet(book, value)
    if sheet is None:
        raise InvalidSheet(-1)
    return sheet


def _closed_start(book, values, lists):
    """The values as sayings of the book, ascending behind their parts, up to the first that is not so."""
    places = dict(book.makers)
    ranks = []
    sayings = []
    for value in values:
        saying = own_saying(value, places, lists)
        if saying is None or (ranks and ranks[-1] >= rank_of(saying)):
            return sayings
        if not isinstance(saying, str) and not all([rank_of(part) in ranks for part in saying[1:]]):
            return sayings
        ranks.append(rank_of(saying))
        sayings.append(saying)
    return sayings


def need_closed_lot(book, values):
    """The lot of sayings that ascend, each behind its parts."""
    if not is_sequence(values):
        raise InvalidLot(-1)
    sayings = _closed_start(book, values, True)
    if len(sayings) < len(values):
        raise InvalidLot(len(sayings))
    return ClosedLot(book, sayings)


def own_closed_lot(book, value):
    """The lot of a value that is such a tuple; None for any other value."""
    if not isinstance(value, tuple):
        return None
    sayings = _closed_start(book, value, False)
    return ClosedLot(book, sayings) if len(sayings) == len(value) else None


def formed_heap(lot, value):
    """The worlds of a value that is a heap on the lot, as (bits of what is 1, numbers above); else None."""
    if not isinstance(value, tuple) or not value:
        return None
    worlds = [_formed_world(pair, len(lot.sayings), len(value)) for pair in value]
    if None in worlds or not all([_stands_below(worlds, number) for number in range(len(worlds))]):
        return None
    return worlds if _rules_are_kept(lot, worlds) else None


def _formed_world(pair, sayings, many):
    """(bits, numbers above) of one of so many worlds, or None."""
    if not isinstance(pair, tuple) or len(pair) != 2:
        return None
    truths = formed_row(pair[0], lists=False)
    above = pair[1]
    if truths is None or len(truths) != sayings or not isinstance(above, tuple):
        return None
    if not all([is_number_below(number, many) for number in above]) or above != lot_of(above):
        return None
    return sum([truth << at for at, truth in enumerate(truths)]), above


def _stands_below(worlds, number):
    """Whether what is above the world is so as it should be: itself too, what is above these, no 1 lost."""
    bits, above = worlds[number]
    if number not in above or any([bits & ~worlds[other][0] for other in above]):
        return False
    reached = {other: True for other in above}
    return all([most in reached for other in above for most in worlds[other][1]])


def _rules_are_kept(lot, worlds):
    """Whether sayings are 1 where a right rule is sure, 0 where a left one is."""
    for rule in filled_rules(lot):
        firm = [premise for premise in rule.premises if rule.right or premise[1]]
        soft = [premise for premise in rule.premises if not rule.right and not premise[1]]
        firm_here = [all([not breaks(bits, premise) for premise in firm]) for bits, above in worlds]
        for bits, above in worlds:
            # Only where the saying is what a sure rule would not let it be, the rule is looked at.
            if bits & rule.left or rule.right & ~bits:
                if all([not breaks(bits, premise) for premise in soft]) and all([firm_here[other] for other in above]):
                    return False
    return True


def heap_holds(book, sayings, value):
    """Whether the value is a heap on the sayings."""
    lot = need_closed_lot(need_careful(book), sayings)
    return formed_heap(lot, value) is not None


def sheet_kept(book, sayings, heap, sheet):
    """Whether no world of the heap has all left sayings of the sheet 1 and its right one 0."""
    lot = need_closed_lot(need_careful(book), sayings)
    worlds = formed_heap(lot, heap)
    if worlds is None:
        raise InvalidWorld(-1)
    whole = need_careful_sheet(book, sheet)
    if not all([saying in lot.sayings for saying in whole[0] + whole[1]]):
        raise InvalidSheet(-1)
    told = lot.sheet_bits(whole)
    return not any([breaks(bits, told) for bits, above in worlds])

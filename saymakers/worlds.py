"""Worlds: truths of closed lots of sayings that keep the rules of a book."""

from saymakers.books import need_book
from saymakers.closed import ClosedLot, let_truths
from saymakers.errors import InvalidIndex, InvalidSheet, InvalidSize, InvalidWorld, Refused
from saymakers.forms import fits, formed_saying, formed_sheet, rank_of, text_of
from saymakers.kinds import is_number_below, is_sequence
from saymakers.needs import need_own_saying, need_own_sayings

_MOST_SAYINGS = 12
_MOST_FOR_SHEETS = 7


def _formed_world(value, lists):
    """The value as an ascending tuple of (saying, truth), or None."""
    if not is_sequence(value, lists):
        return None
    pairs = []
    for pair in value:
        if not is_sequence(pair, lists) or len(pair) != 2 or not is_number_below(pair[1], 2):
            return None
        saying = formed_saying(pair[0], lists)
        if saying is None or (pairs and rank_of(pairs[-1][0]) >= rank_of(saying)):
            return None
        pairs.append((saying, pair[1]))
    return tuple(pairs)


def _let_truths(book, saying, truths):
    """The truths that the rules let the saying have; the dict has those of its parts by their texts."""
    if isinstance(saying, str):
        return (0, 1)
    return let_truths(book, saying[0], tuple([truths[text_of(part)] for part in saying[1:]]))


def _own_world(book, value, lists):
    """(the value as a world of the book, its truths by texts), or None."""
    world = _formed_world(value, lists)
    places = dict(book.makers)
    if world is None or not all([fits(saying, places) for saying, truth in world]):
        return None
    truths = {}
    for saying, truth in world:
        # Parts stand ahead of what they are parts of, as they have fewer names.
        if not _parts_are_there(saying, truths) or truth not in _let_truths(book, saying, truths):
            return None
        truths[text_of(saying)] = truth
    return world, truths


def _parts_are_there(saying, truths):
    """Whether the dict has a truth for each part right within the saying."""
    return isinstance(saying, str) or all([text_of(part) in truths for part in saying[1:]])


def own_truths(book, value):
    """The truths, by texts, of a value that is a world of the book in tuples; else None."""
    found = _own_world(book, value, False)
    return None if found is None else found[1]


def is_world(book, value):
    """Whether the value is a world of the book."""
    return own_truths(need_book(book), value) is not None


def next_truths(book, world, saying):
    """The truths that one saying more may have with the world."""
    found = _own_world(need_book(book), world, True)
    if found is None:
        raise InvalidWorld(-1)
    whole = need_own_saying(book, saying)
    truths = found[1]
    if text_of(whole) in truths or not _parts_are_there(whole, truths):
        raise Refused(-1)
    return _let_truths(book, whole, truths)


def keeps_sheet(world, sheet):
    """Whether some left saying of the sheet is 0 in the world or some right one 1."""
    pairs = _formed_world(world, True)
    if pairs is None:
        raise InvalidWorld(-1)
    sides = formed_sheet(sheet)
    if sides is None:
        raise InvalidSheet(-1)
    truths = {text_of(saying): truth for saying, truth in pairs}
    if not are_told(truths, sides[0] + sides[1]):
        raise Refused(-1)
    return is_kept(truths, sides)


def are_told(truths, sayings):
    """Whether there is a truth, by texts, for each of the sayings."""
    return all([text_of(saying) in truths for saying in sayings])


def is_kept(truths, sheet):
    """Whether the truths, by texts, keep the sheet."""
    left, right = [[truths[text_of(saying)] for saying in side] for side in sheet]
    return 0 in left or 1 in right


def breaks_sheet(book, sheet, value):
    """Whether the value is a world of the book that has the sheet's sayings and does not keep it."""
    truths = own_truths(book, value)
    return truths is not None and are_told(truths, sheet[0] + sheet[1]) and not is_kept(truths, sheet)


def _need_lot(book, sayings, most):
    """The lot of the sayings and all their parts, not more than so many."""
    lot = ClosedLot(book, need_own_sayings(need_book(book), sayings))
    if len(lot.sayings) > most:
        raise InvalidSize("sayings")
    return lot


def world_count(book, sayings):
    """How many worlds the sayings and all their parts have."""
    return len(_need_lot(book, sayings, _MOST_SAYINGS).worlds())


def nth_world(book, sayings, index):
    """The world of this number, put by truths in the order of the sayings."""
    lot = _need_lot(book, sayings, _MOST_SAYINGS)
    worlds = lot.worlds()
    if not is_number_below(index, len(worlds)):
        raise InvalidIndex(-1)
    return lot.world_pairs(worlds[index])


def kept_count(book, sayings):
    """How many sheets over the closed lot, no saying on both sides, all its worlds keep."""
    lot = _need_lot(book, sayings, _MOST_FOR_SHEETS)
    worlds = lot.worlds()
    many = 0
    for left, right in _all_sides(len(lot.sayings)):
        if all([left & ~world or right & world for world in worlds]):
            many += 1
    return many


def _all_sides(many):
    """All ways to put so many sayings left, right or on no side, as the bits of two numbers."""
    ways = [(0, 0)]
    for at in range(many):
        bit = 1 << at
        more = [(left | bit, right) for left, right in ways] + [(left, right | bit) for left, right in ways]
        ways = ways + more
    return ways

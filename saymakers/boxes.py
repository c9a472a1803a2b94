"""Lots of rows of few places as bits, boxes of rows, and covers by as few lots as can be.

The k-th bit stands for the k-th row of the places.
"""

from itertools import combinations

from saymakers.errors import InvalidLot
from saymakers.kinds import is_number_below, is_sequence, row_of_places, rows_of

EITHER = 2


def need_rows(places, rows):
    """The bits of rows of these places."""
    if not is_sequence(rows):
        raise InvalidLot(-1)
    formed = []
    for at, value in enumerate(rows):
        row = row_of_places(value, places)
        if row is None:
            raise InvalidLot(at)
        formed.append(row)
    return bits_of_rows(places, formed)


def wrong_figure(places, table):
    """The place of the first thing in the table that is no truth and not None, -1 for no table; else None."""
    if not is_sequence(table) or len(table) != 1 << places:
        return -1
    for at, truth in enumerate(table):
        if truth is not None and not is_number_below(truth, 2):
            return at
    return None


def bits_of_rows(places, rows):
    """The bits of the rows."""
    return sum([1 << at for at, row in enumerate(rows_of(places)) if row in rows])


def rows_of_bits(places, bits):
    """The rows of these bits, ascending."""
    return tuple([row for at, row in enumerate(rows_of(places)) if bits >> at & 1])


def all_bits(places):
    """The bits of all rows."""
    return (1 << (1 << places)) - 1


def box_bits(box):
    """The bits of the rows of a box."""
    rows = [row for row in rows_of(len(box)) if all([sign in (truth, EITHER) for sign, truth in zip(box, row)])]
    return bits_of_rows(len(box), rows)


def boxes_within(places, bits):
    """(box, its bits) for all boxes that have no other rows than these, ascending."""
    boxes = [(box, box_bits(box)) for box in rows_of(places, EITHER + 1)]
    return [(box, own) for box, own in boxes if not own & ~bits]


def spanned_box(one, other):
    """The least box that has both rows."""
    return tuple([truth if truth == more else EITHER for truth, more in zip(one, other)])


def fewest_covers(lots, bits):
    """All rows of as few names of the pairs (name, bits) as can be that have all these bits together."""
    pairs = list(lots)
    for many in range(len(pairs) + 1):
        covers = []
        for lot in combinations(pairs, many):
            if not bits & ~united([own for name, own in lot]):
                covers.append(tuple([name for name, own in lot]))
        if covers:
            return covers
    return []


def united(lots):
    """All bits of the lots."""
    bits = 0
    for each in lots:
        bits = bits | each
    return bits


def box_premises(box):
    """The premises, of one place each, that hold just in the rows of the box."""
    rights = [((), (place,)) for place, sign in enumerate(box, start=1) if sign == 1]
    return rights + [((place,), ()) for place, sign in enumerate(box, start=1) if sign == 0]


def barring_premise(row):
    """The premise that holds in all rows but this one."""
    left = [place for place, truth in enumerate(row, start=1) if truth == 1]
    return tuple(left), tuple([place for place, truth in enumerate(row, start=1) if truth == 0])

"""Rows of few places as bits, boxes of rows, and covers by as few lots as can be."""

from itertools import combinations

from saymakers.errors import InvalidLot, InvalidSize
from saymakers.kinds import MOST_PLACES, is_number_below, is_sequence, row_of_places, rows_of

_EITHER = 2


def need_places(places):
    """A number of places."""
    if not is_number_below(places, MOST_PLACES + 1):
        raise InvalidSize("places")
    return places


def need_rows(places, rows):
    """The rows of these places as bits: the k-th bit stands for the k-th row."""
    if not is_sequence(rows):
        raise InvalidLot(-1)
    bits = 0
    every = rows_of(places)
    for at, value in enumerate(rows):
        row = row_of_places(value, places)
        if row is None:
            raise InvalidLot(at)
        bits = bits | (1 << every.index(row))
    return bits


def wrong_figure(places, table):
    """The place of the first thing in the table that is no truth and not None, -1 for no table; else None."""
    if not is_sequence(table) or len(table) != 1 << places:
        return -1
    for at, truth in enumerate(table):
        if truth is not None and not is_number_below(truth, 2):
            return at
    return None


def rows_of_bits(places, bits):
    """The rows of these bits, ascending."""
    return tuple([row for at, row in enumerate(rows_of(places)) if bits >> at & 1])


def is_box(value, places):
    """Whether the value is, as a tuple, a box of these places."""
    return row_of_places(value, places, _EITHER + 1, lists=False) is not None


def box_bits(box):
    """The rows of a box as bits."""
    bits = 0
    for at, row in enumerate(rows_of(len(box))):
        if all([sign in (truth, _EITHER) for sign, truth in zip(box, row)]):
            bits = bits | (1 << at)
    return bits


def boxes_within(places, bits):
    """(box, its rows) for all boxes that have no other rows than these, ascending."""
    every = [(box, box_bits(box)) for box in rows_of(places, _EITHER + 1)]
    return [(box, rows) for box, rows in every if not rows & ~bits]


def fewest_covers(named, bits):
    """All lots of as few names of the pairs (name, rows) as can be whose rows have these together."""
    pairs = list(named)
    for many in range(len(pairs) + 1):
        covers = []
        for lot in combinations(pairs, many):
            if not bits & ~united([rows for name, rows in lot]):
                covers.append(tuple([name for name, rows in lot]))
        if covers:
            return covers
    return []


def united(lots):
    """All bits of the lots."""
    bits = 0
    for each in lots:
        bits = bits | each
    return bits


def box_premises(box):
    """The premises that hold just in the rows of the box, with one place each."""
    rights = [((), (at,)) for at, sign in enumerate(box, start=1) if sign == 1]
    return rights + [((at,), ()) for at, sign in enumerate(box, start=1) if sign == 0]


def barring_premise(row):
    """The premise that holds in all rows but this one."""
    left = [at for at, truth in enumerate(row, start=1) if truth == 1]
    return tuple(left), tuple([at for at, truth in enumerate(row, start=1) if truth == 0])

"""Sayings with a hole: what tells two alike sayings apart when they stand within others."""

from saymakers.closed import ClosedLot

_SIGNS = "abcdefghijklmnopqrstuvwxyz"


def world_apart(book, one, other):
    """Some world of the parts of two unlike sayings that tells them apart, or None."""
    lot = ClosedLot(book, (one, other))
    first = lot.bits_of((one,))
    second = lot.bits_of((other,))
    worlds = lot.worlds(first, second) or lot.worlds(second, first)
    return lot.world_pairs(worlds[0]) if worlds else None


def can_be(book, saying, truth):
    """Whether the saying has this truth in some world."""
    lot = ClosedLot(book, (saying,))
    bits = lot.bits_of((saying,))
    return bool(lot.worlds(bits, 0) if truth else lot.worlds(0, bits))


def is_around(first, second, one, other):
    """Whether the two sayings are one saying with the one and with the other, unlike ones, in a hole within it."""
    if isinstance(first, str) or isinstance(second, str) or first[0] != second[0]:
        return False
    unlike = [pair for pair in zip(first[1:], second[1:]) if pair[0] != pair[1]]
    if len(unlike) != 1:
        return False
    return unlike[0] == (one, other) or is_around(unlike[0][0], unlike[0][1], one, other)


def _fresh_letters(sayings):
    """Two letters that are none of the sayings."""
    names = list(_SIGNS) + [sign + more for sign in _SIGNS for more in _SIGNS]
    return [name for name in names if name not in sayings][:2]


def _hole(name, row, place, letters):
    """The maker with a letter for each truth of the row, None in the place of the hole."""
    filling = [None if at == place else letters[truth] for at, truth in enumerate(row)]
    return (name,) + tuple(filling)


def _filled(hole, saying):
    """The hole with the saying in it."""
    return tuple([saying if part is None else part for part in hole])


def _single_holes(tables, truths, letters):
    """(hole, truth told or None) for each row with one of these truths in the place of the hole."""
    found = []
    for name, table in tables.items():
        for row, told in table.items():
            for place, truth in enumerate(row):
                if truth in truths:
                    found.append((_hole(name, row, place, letters), told))
    return found


def parted(book, tables, one, other):
    """(first, second, world): one or two makers around a hole with alike sayings in it, told apart by a world.

    In an open row what stands in the hole is told apart at once. If there is none, a row that is told
    turns it to the truth that an open row of another maker has.
    """
    lot = ClosedLot(book, (one, other))
    letters = _fresh_letters(lot.sayings)
    truths = [truth for truth in (0, 1) if can_be(book, one, truth)]
    inner = _single_holes(tables, truths, letters)
    pairs = [(_filled(hole, one), _filled(hole, other)) for hole, told in inner if told is None]
    for within, told in inner:
        if told is not None and not pairs:
            outer = _single_holes(tables, (told,), letters)
            pairs = [(_filled(hole, _filled(within, one)), _filled(hole, _filled(within, other)))
                     for hole, more in outer if more is None]
    first, second = pairs[0]
    return first, second, world_apart(book, first, second)

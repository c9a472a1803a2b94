"""Sayings and sheets that are known to be right, and the values that can be made such.

A saying is told apart by its text where a dict needs a key, as keys must not be nested deep.
"""

from saymakers.errors import InvalidFilling
from saymakers.kinds import MOST_PLACES, is_name, is_sequence

MOST_DEEP = 30
MOST_NAMES = 400


def formed_saying(value, lists=True):
    """The value as a saying in tuples, or None."""
    found = _sized_saying(value, 0, lists)
    return None if found is None else found[0]


def _sized_saying(value, deep, lists):
    """(saying, its many names), or None; deep makers stand around it."""
    if isinstance(value, str):
        return (value, 1) if is_name(value) else None
    if deep == MOST_DEEP or not is_sequence(value, lists):
        return None
    if not 1 <= len(value) <= MOST_PLACES + 1 or not is_name(value[0]):
        return None
    many = 1
    whole = [value[0]]
    for part in value[1:]:
        found = _sized_saying(part, deep + 1, lists)
        if found is None:
            return None
        whole.append(found[0])
        many += found[1]
        if many > MOST_NAMES:
            return None
    return tuple(whole), many


def fits(saying, places):
    """Whether all makers of the saying stand in the dict places, with as many places."""
    if isinstance(saying, str):
        return True
    if places.get(saying[0], -1) != len(saying) - 1:
        return False
    return all([fits(part, places) for part in saying[1:]])


def own_saying(value, places, lists=True):
    """The value as a saying of these makers, or None."""
    saying = formed_saying(value, lists)
    return saying if saying is not None and fits(saying, places) else None


def text_of(saying):
    """The saying's text."""
    if isinstance(saying, str):
        return saying
    return saying[0] + "(" + ", ".join([text_of(part) for part in saying[1:]]) + ")"


def name_count(saying):
    """How many names stand in the saying."""
    if isinstance(saying, str):
        return 1
    return 1 + sum([name_count(part) for part in saying[1:]])


def rank_of(saying):
    """What sayings are ordered by."""
    return name_count(saying), text_of(saying)


def depth_of(saying):
    """How many makers stand one within another at most."""
    if isinstance(saying, str):
        return 0
    return 1 + max([0] + [depth_of(part) for part in saying[1:]])


def is_too_great(saying):
    """Whether a saying put together of others goes beyond the bounds."""
    return depth_of(saying) > MOST_DEEP or name_count(saying) > MOST_NAMES


def ordered_lot(sayings):
    """The sayings ascending, each once."""
    ranked = {rank_of(saying): saying for saying in sayings}
    return tuple([ranked[rank] for rank in sorted(ranked)])


def parts_of(sayings):
    """The sayings and all their parts, ascending."""
    found = {}
    rest = list(sayings)
    while rest:
        saying = rest.pop()
        rank = rank_of(saying)
        if rank not in found:
            found[rank] = saying
            if not isinstance(saying, str):
                rest.extend(list(saying[1:]))
    return tuple([found[rank] for rank in sorted(found)])


def filled_saying(saying, table):
    """The saying with what the table tells for its letters, all at once."""
    if isinstance(saying, str):
        return table.get(saying, saying)
    return (saying[0],) + tuple([filled_saying(part, table) for part in saying[1:]])


def filling_table(filling, places=None):
    """The filling as a dict; with places, its sayings must be of these makers."""
    if not is_sequence(filling):
        raise InvalidFilling(-1)
    table = {}
    for at, pair in enumerate(filling):
        if not is_sequence(pair) or len(pair) != 2 or not is_name(pair[0]) or pair[0] in table:
            raise InvalidFilling(at)
        saying = formed_saying(pair[1])
        if saying is None or not (places is None or fits(saying, places)):
            raise InvalidFilling(at)
        table[pair[0]] = saying
    return table


def formed_sheet(value, lists=True):
    """The value as a sheet in order, or None."""
    if not is_sequence(value, lists) or len(value) != 2:
        return None
    sides = []
    for side in value:
        if not is_sequence(side, lists):
            return None
        sayings = [formed_saying(saying, lists) for saying in side]
        if None in sayings:
            return None
        sides.append(ordered_lot(sayings))
    return tuple(sides)


def sheet_rank(sheet):
    """What sheets are ordered by: their left sayings, then their right ones, each by rank."""
    return tuple([tuple([rank_of(saying) for saying in side]) for side in sheet])


def sheet_fits(sheet, places):
    """Whether all sayings of the sheet are of these makers."""
    return all([fits(saying, places) for saying in sheet[0] + sheet[1]])


def own_sheet(value, places):
    """The value as a sheet of these makers' sayings, or None."""
    sheet = formed_sheet(value)
    return sheet if sheet is not None and sheet_fits(sheet, places) else None


def exact_own_sheet(value, places):
    """The value, if it is in tuples and in order a sheet of these makers' sayings, else None."""
    sheet = formed_sheet(value, False)
    if sheet is None or sheet != value or not sheet_fits(sheet, places):
        return None
    return sheet


def beside(sheet, other):
    """All sayings of both sheets."""
    return ordered_lot(sheet[0] + other[0]), ordered_lot(sheet[1] + other[1])


def filled_sheet(sheet, table):
    """The sheet with what the table tells for its letters."""
    return tuple([ordered_lot([filled_saying(saying, table) for saying in side]) for side in sheet])

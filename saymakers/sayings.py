"""Sayings and sheets: their texts, parts, orders and fillings."""

from saymakers.errors import InvalidSaying, InvalidSheet
from saymakers.forms import (
    beside, depth_of, filled_saying, filled_sheet, filling_table, formed_saying, formed_sheet, is_too_great,
    parts_of, rank_of, text_of)
from saymakers.kinds import is_sequence
from saymakers.texts import TextReader


def need_saying(saying, at=-1):
    """The saying in tuples."""
    found = formed_saying(saying)
    if found is None:
        raise InvalidSaying(at)
    return found


def need_sheet(sheet, at=-1):
    """The sheet in order."""
    found = formed_sheet(sheet)
    if found is None:
        raise InvalidSheet(at)
    return found


def saying_depth(saying):
    """How many makers stand one within another at most."""
    return depth_of(need_saying(saying))


def saying_text(saying):
    """The saying's text, as `and(p, not(q))`."""
    return text_of(need_saying(saying))


def saying_rank(saying):
    """(how many names in all, text), by which sayings ascend."""
    return rank_of(need_saying(saying))


def saying_parts(saying):
    """The saying and all its parts, ascending."""
    return parts_of([need_saying(saying)])


def closed_lot(sayings):
    """All parts of the sayings, ascending."""
    if not is_sequence(sayings):
        raise InvalidSaying(-1)
    return parts_of([need_saying(saying) for saying in sayings])


def saying_letters(saying):
    """The letters of the saying, ascending."""
    return tuple([part for part in parts_of([need_saying(saying)]) if isinstance(part, str)])


def fill_saying(saying, filling):
    """The saying with sayings put for letters, all at once."""
    whole = filled_saying(need_saying(saying), filling_table(filling))
    if is_too_great(whole):
        raise InvalidSaying(-1)
    return whole


def put_beside(sheet, other):
    """All sayings of both sheets."""
    first = need_sheet(sheet, 0)
    return beside(first, need_sheet(other, 1))


def lies_within(sheet, other):
    """Whether all sayings of the one sheet stand so in the other."""
    first = need_sheet(sheet, 0)
    second = need_sheet(other, 1)
    return all([saying in second[side] for side in (0, 1) for saying in first[side]])


def is_start(sheet):
    """Whether a saying stands on both sides."""
    left, right = need_sheet(sheet)
    return any([saying in right for saying in left])


def sheet_parts(sheet):
    """All parts of the sheet's sayings, ascending."""
    left, right = need_sheet(sheet)
    return parts_of(left + right)


def sheet_text(sheet):
    """The sheet's text, as `p, q | r`."""
    left, right = [", ".join([text_of(saying) for saying in side]) for side in need_sheet(sheet)]
    return (left + " | " + right).strip(" ")


def fill_sheet(sheet, filling):
    """The sheet with sayings put for letters, all at once."""
    whole = filled_sheet(need_sheet(sheet), filling_table(filling))
    if any([is_too_great(saying) for saying in whole[0] + whole[1]]):
        raise InvalidSheet(-1)
    return whole


def read_saying(text):
    """The saying that the text tells."""
    return TextReader(text).read_whole_saying()


def read_sheet(text):
    """The sheet that the text tells."""
    return TextReader(text).read_whole_sheet()

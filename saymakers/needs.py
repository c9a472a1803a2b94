"""Sayings and sheets that must be of a book; wrong ones raise their errors."""

from saymakers.errors import InvalidSaying, InvalidSheet
from saymakers.forms import own_saying, own_sheet
from saymakers.kinds import is_sequence


def need_own_saying(book, value, at=-1):
    """The value as a saying of the book."""
    saying = own_saying(value, dict(book.makers))
    if saying is None:
        raise InvalidSaying(at)
    return saying


def need_own_sayings(book, values):
    """The values as sayings of the book, as they were told."""
    if not is_sequence(values):
        raise InvalidSaying(-1)
    return tuple([need_own_saying(book, value, at) for at, value in enumerate(values)])


def need_own_sheet(book, value, at=-1):
    """The value as a sheet in order of the book's sayings."""
    sheet = own_sheet(value, dict(book.makers))
    if sheet is None:
        raise InvalidSheet(at)
    return sheet


def need_own_sheets(book, values):
    """The values as sheets in order of the book's sayings, as they were told."""
    if not is_sequence(values):
        raise InvalidSheet(-1)
    return tuple([need_own_sheet(book, value, at) for at, value in enumerate(values)])

"""Columns of truths: the shortest writings, the rows that bar writings, the fewest makers that are wanted."""

from itertools import combinations

from saymakers.books import need_book
from saymakers.closing import Closing, maker_count
from saymakers.court import need_calm
from saymakers.errors import InvalidMakers, InvalidSize, Refused
from saymakers.forms import own_saying, parts_of
from saymakers.kinds import is_sequence, row_of_places
from saymakers.makings import Columns, maker_letters, maker_saying, makings_of
from saymakers.wholly import table_gaps

_MOST_OTHERS = 7


def _need_helpers(book, name, helpers):
    """Unlike other makers of the book."""
    if not is_sequence(helpers):
        raise InvalidMakers(-1)
    others = [other for other, places in book.makers if other != name]
    found = []
    for at, helper in enumerate(helpers):
        if helper not in others or helper in found:
            raise InvalidMakers(at)
        found.append(helper)
    return found


def _need_case(book, name, helpers):
    """The helpers of a maker of a calm book, their open rows being few."""
    need_book(book).maker_places(name)
    found = _need_helpers(book, name, helpers)
    need_calm(book)
    makings_of(book, found)
    return found


class Case:
    """A whole maker and its helpers: the column that is wanted, and the closing, if it is not too great."""

    def __init__(self, book, name, helpers):
        # The maker is whole, so that it puts in no making.
        self.columns = Columns(book, helpers + [name], maker_letters(book, name))
        self.wanted = self.columns.column_of(maker_saying(book, name))
        self.closing = Closing(self.columns, helpers)

    def shortest(self):
        """A writing with the fewest makers, or None."""
        return self.closing.sayings.get(self.wanted)

    def told_columns(self):
        """The closing's columns, ascending."""
        return tuple([self.columns.truths_of(column) for column in sorted(self.closing.sayings)])


def shortest_writing(book, name, helpers):
    """The maker's first open row, a shortest writing by the helpers, or the closing that lacks the maker."""
    found = _need_case(book, name, helpers)
    rows = table_gaps(book, name)
    if rows:
        return ("open", rows[0])
    case = Case(book, name, found)
    saying = case.shortest()
    return ("closed", case.told_columns()) if saying is None else ("writing", saying)


def shortest_holds(book, name, helpers, value):
    """Whether the value is such a paper, of any open row or any shortest writing."""
    found = _need_case(book, name, helpers)
    rows = table_gaps(book, name)
    case = None if rows else Case(book, name, found)
    if not isinstance(value, tuple) or len(value) != 2:
        return False
    if case is None:
        return value[0] == "open" and row_of_places(value[1], book.maker_places(name), lists=False) in rows
    saying = case.shortest()
    if saying is None:
        return value[0] == "closed" and _are_columns(value[1], case.told_columns())
    return value[0] == "writing" and _is_shortest(book, case, found, value[1], maker_count(saying))


def _are_columns(value, columns):
    """Whether any value is just these columns; a bool is no truth."""
    if not isinstance(value, tuple) or len(value) != len(columns):
        return False
    return all([row_of_places(each, len(column), lists=False) == column for each, column in zip(value, columns)])


def _is_shortest(book, case, helpers, value, many):
    """Whether the value is a writing by the helpers with so many makers."""
    saying = own_saying(value, {helper: book.maker_places(helper) for helper in helpers}, False)
    if saying is None or maker_count(saying) != many:
        return False
    letters = [part for part in parts_of((saying,)) if isinstance(part, str)]
    return all([letter in case.columns.letters for letter in letters]) and case.columns.column_of(saying) == case.wanted


def _need_whole_case(book, name, helpers):
    """The case of a maker and helpers that are all whole."""
    found = _need_case(book, name, helpers)
    for maker in [name] + found:
        if table_gaps(book, maker):
            raise Refused(maker)
    return Case(book, name, found)


def _cut(case, numbers):
    """(the maker's truths in the rows of these numbers, the closing's columns cut to them, ascending)."""
    wanted = case.columns.truths_of(case.wanted)
    cut = {tuple([column[number] for number in numbers]): True for column in case.told_columns()}
    return tuple([wanted[number] for number in numbers]), tuple(sorted(cut))


def fewest_rows(book, name, helpers):
    """(rows, columns): the first fewest rows on which the maker is no column of the closing; None if written."""
    case = _need_whole_case(book, name, helpers)
    rows = case.columns.rows
    if case.shortest() is not None:
        return None
    numbers = list(range(len(rows)))
    for many in range(len(rows) + 1):
        for lot in combinations(numbers, many):
            truths, columns = _cut(case, lot)
            if truths not in columns:
                return tuple([rows[number] for number in lot]), columns
    return None


def rows_hold(book, name, helpers, value):
    """Whether the value is ascending rows on which the maker is no column of the closing, and the columns there."""
    case = _need_whole_case(book, name, helpers)
    if not isinstance(value, tuple) or len(value) != 2 or not isinstance(value[0], tuple):
        return False
    rows = [row_of_places(row, len(case.columns.rows[0]), lists=False) for row in value[0]]
    if None in rows or not all([one < other for one, other in zip(rows, rows[1:])]):
        return False
    truths, columns = _cut(case, [case.columns.rows.index(row) for row in rows])
    return truths not in columns and _are_columns(value[1], columns)


def least_helpers(book, name):
    """All least lots of other makers with a writing right in all makings, fewer first, then ascending."""
    need_book(book).maker_places(name)
    others = [other for other, places in need_calm(book).makers if other != name]
    makings_of(book, others)
    if len(others) > _MOST_OTHERS:
        raise InvalidSize("makers")
    if table_gaps(book, name):
        return ()
    case = Case(book, name, others)
    least = []
    if case.shortest() is None:
        return ()
    for many in range(len(others) + 1):
        for lot in combinations(others, many):
            if not any([all([maker in lot for maker in less]) for less in least]) and case.wanted in Closing(
                    case.columns, lot).sayings:
                least.append(lot)
    return tuple(least)

"""Tables of makers: what tells two books apart, books with tables told, all tables by numbers."""

from saymakers.books import Book, maker_table, need_book
from saymakers.boxes import barring_premise, wrong_figure
from saymakers.court import need_calm
from saymakers.errors import InvalidIndex, InvalidLot, InvalidMakers, Refused
from saymakers.forms import ordered_lot
from saymakers.kinds import SIDES, is_number_below, is_sequence, row_of_places, rows_of
from saymakers.premises import need_places
from saymakers.rules import MOST_MAKERS, is_maker

_FIGURES = (0, 1, None)
_TRUE_LETTER = "q"
_FALSE_LETTER = "r"


def _need_pair(one, other):
    """Two calm books of the same makers."""
    need_book(one)
    if one.makers != need_book(other).makers:
        raise Refused(-1)
    need_calm(one)
    need_calm(other)


def _apart_sheet(name, row, truth):
    """The sheet `q | r` with the maker's saying on the side that the truth tells."""
    whole = (name,) + tuple([_TRUE_LETTER if each else _FALSE_LETTER for each in row])
    sides = [[_TRUE_LETTER], [_FALSE_LETTER]]
    sides[truth].append(whole)
    return ordered_lot(sides[0]), ordered_lot(sides[1])


def tables_apart(one, other):
    """(maker, row, sheet, which): the book `which` alone has a proof of the sheet; None for equal tables."""
    _need_pair(one, other)
    for name, places in one.makers:
        for row, first, second in zip(rows_of(places), maker_table(one, name), maker_table(other, name)):
            if first != second:
                which = 1 if first is None else 0
                truth = second if first is None else first
                return (name, row, _apart_sheet(name, row, truth), which)
    return None


def apart_holds(one, other, value):
    """Whether the value is such a tuple, of any row at which tables differ."""
    _need_pair(one, other)
    if not isinstance(value, tuple) or len(value) != 4:
        return False
    name, row, sheet, which = value
    if name not in [own for own, places in one.makers] or not is_number_below(which, 2):
        return False
    truths = row_of_places(row, one.maker_places(name), lists=False)
    if truths is None:
        return False
    at = rows_of(len(truths)).index(truths)
    tables = [maker_table(book, name) for book in (one, other)]
    told = tables[which][at]
    return told is not None and told != tables[1 - which][at] and sheet == _apart_sheet(name, truths, told)


def _wrong_triple(tables):
    """The place of the first of the tables' makers that is wrong, -1 for no sequence; else None."""
    if not is_sequence(tables):
        return -1
    names = []
    for at, triple in enumerate(tables):
        if not is_sequence(triple) or len(triple) != 3 or not is_maker((triple[0], triple[1])):
            return at
        if triple[0] in names or at == MOST_MAKERS:
            return at
        names.append(triple[0])
    return None


def told_book(tables):
    """The book of these makers and tables with one rule a side, each premise of which bars one row."""
    wrong = _wrong_triple(tables)
    if wrong is not None:
        raise InvalidMakers(wrong)
    rules = []
    for at, (name, places, table) in enumerate(tables):
        if wrong_figure(places, table) is not None:
            raise InvalidLot(at)
        for truth, side in enumerate(SIDES):
            others = [row for row, told in zip(rows_of(places), table) if told != truth]
            if len(others) < len(table):
                rules.append((name, side, [barring_premise(row) for row in others]))
    return Book([(name, places) for name, places, table in tables], rules)


def _table_count(rows):
    """How many tables of so many rows there are."""
    count = 1
    for _ in range(rows):
        count = count * len(_FIGURES)
    return count


def nth_table(places, number):
    """The table of this number."""
    rows = 1 << need_places(places)
    if not is_number_below(number, _table_count(rows)):
        raise InvalidIndex(-1)
    return tuple([_FIGURES[number // _table_count(rows - 1 - at) % len(_FIGURES)] for at in range(rows)])


def table_number(places, table):
    """The number of the table."""
    wrong = wrong_figure(need_places(places), table)
    if wrong is not None:
        raise InvalidLot(wrong)
    number = 0
    for truth in table:
        number = number * len(_FIGURES) + _FIGURES.index(truth)
    return number

"""Writings: makers told by sayings of other makers."""

from saymakers.books import need_book
from saymakers.closed import ClosedLot
from saymakers.court import need_calm
from saymakers.errors import InvalidSize
from saymakers.kinds import row_of_places
from saymakers.makings import Columns, maker_letters, maker_saying, makers_in, need_writing
from saymakers.proofs import proof_holds
from saymakers.prover import sheet_proof
from saymakers.worlds import breaks_sheet

_MOST_SAYINGS = 14


class Written:
    """A maker of a calm book and a writing of it: their saying of letters, the lot of all parts, the columns."""

    def __init__(self, book, name, writing):
        need_book(book).maker_places(name)
        self.writing = need_writing(book, name, writing)
        need_calm(book)
        self.book = book
        self.saying = maker_saying(book, name)
        self.lot = ClosedLot(book, (self.saying, self.writing))
        if len(self.lot.sayings) > _MOST_SAYINGS:
            raise InvalidSize("sayings")
        self.columns = Columns(book, makers_in(self.writing) + [name], maker_letters(book, name))
        self.unlike = self.columns.column_of(self.saying) ^ self.columns.column_of(self.writing)

    def both_ways(self):
        """saying | writing, and back."""
        return ((self.saying,), (self.writing,)), ((self.writing,), (self.saying,))

    def differ_at(self, making, row):
        """Whether the two differ in the row of the making, told by their places."""
        at = making * len(self.columns.rows) + row
        return bool(self.unlike >> (self.columns.many - 1 - at) & 1)


def writing_paper(book, name, writing):
    """A making and a row, or a world, in which the maker's saying and the writing differ, or two proofs."""
    case = Written(book, name, writing)
    if case.unlike:
        at = case.columns.many - case.unlike.bit_length()
        making, row = divmod(at, len(case.columns.rows))
        return ("making", case.columns.makings[making], case.columns.rows[row])
    for left, right in case.both_ways():
        worlds = case.lot.worlds(case.lot.bits_of(left), case.lot.bits_of(right))
        if worlds:
            return ("world", case.lot.world_pairs(worlds[0]))
    return ("written",) + tuple([sheet_proof(case.lot, sheet) for sheet in case.both_ways()])


def writing_holds(book, name, writing, value):
    """Whether the value is such a paper, of any making and row, any world or any proofs."""
    case = Written(book, name, writing)
    if not isinstance(value, tuple) or not value:
        return False
    if value[0] == "making":
        return len(value) == 3 and _do_differ(case, value[1], value[2])
    if value[0] == "world":
        return len(value) == 2 and not case.unlike and any(
            [breaks_sheet(book, sheet, value[1]) for sheet in case.both_ways()])
    return value[0] == "written" and len(value) == 3 and all(
        [proof_holds(book, sheet, proof) for sheet, proof in zip(case.both_ways(), value[1:])])


def _do_differ(case, making, row):
    """Whether the values are a making and a row in which the maker's saying and the writing differ."""
    rows = case.columns.rows
    truths = row_of_places(row, len(rows[0]), lists=False)
    for at, own in enumerate(case.columns.makings):
        if truths is not None and _is_same_making(own, making):
            return case.differ_at(at, rows.index(truths))
    return False


def _is_same_making(own, value):
    """Whether any value is this making; a bool is no truth."""
    if not isinstance(value, tuple) or len(value) != len(own):
        return False
    for (name, table), pair in zip(own, value):
        if not isinstance(pair, tuple) or len(pair) != 2 or pair[0] != name:
            return False
        if row_of_places(pair[1], len(table), lists=False) != table:
            return False
    return True

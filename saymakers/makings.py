"""Makings of makers, and the columns of truths that sayings of letters have in all of them.

A column is an integer: its greatest bit is the truth in the first making's first row.
"""

from saymakers.books import maker_table
from saymakers.errors import InvalidSaying, InvalidSize
from saymakers.forms import own_saying, parts_of
from saymakers.kinds import PLACE_LETTERS, rows_of
from saymakers.wholly import table_gaps

_MOST_ROWS = 6


def maker_letters(book, name):
    """The letters of the maker; one also where it has no places."""
    return PLACE_LETTERS[:max([1, book.maker_places(name)])]


def maker_saying(book, name):
    """The maker's saying of its letters."""
    return (name,) + PLACE_LETTERS[:book.maker_places(name)]


def need_writing(book, name, writing):
    """The writing of the maker: a saying of its letters and of other makers."""
    letters = maker_letters(book, name)
    others = {other: places for other, places in book.makers if other != name}
    saying = own_saying(writing, others)
    if saying is None or not all([part in letters for part in parts_of((saying,)) if isinstance(part, str)]):
        raise InvalidSaying(0)
    return saying


def makers_in(saying):
    """The names of the makers in the saying, ascending."""
    return sorted({part[0]: True for part in parts_of((saying,)) if not isinstance(part, str)})


def _full_tables(table):
    """All tables without open rows that keep what the table tells, ascending."""
    choices = [(0, 1) if truth is None else (truth,) for truth in table]
    tables = [()]
    for choice in choices:
        tables = [full + (truth,) for full in tables for truth in choice]
    return tables


def makings_of(book, names):
    """All makings of these makers of a calm book, with few open rows, ascending."""
    gaps = {name: len(table_gaps(book, name)) for name in sorted(names)}
    if sum([many for many in gaps.values()]) > _MOST_ROWS:
        raise InvalidSize("rows")
    ways = [()]
    for name, many in gaps.items():
        if many:
            tables = _full_tables(maker_table(book, name))
            ways = [way + ((name, table),) for way in ways for table in tables]
    return ways


class Columns:
    """The makings of some makers, the rows of so many letters, and the columns of sayings."""

    def __init__(self, book, names, letters):
        self.makings = makings_of(book, names)
        self.rows = rows_of(len(letters))
        self.many = len(self.makings) * len(self.rows)
        self.letters = {}
        for at, letter in enumerate(letters):
            self.letters[letter] = self.bits_where([row[at] for making in self.makings for row in self.rows])
        self.tables = {name: self._row_columns(book, name) for name in names}

    def bits_where(self, truths):
        """The column of these truths."""
        bits = 0
        for truth in truths:
            bits = bits * 2 + truth
        return bits

    def _row_columns(self, book, name):
        """For each row of the maker's places the column of its truth there, in each making."""
        told = [dict(making).get(name, maker_table(book, name)) for making in self.makings]
        return [self.bits_where([table[at] for table in told for row in self.rows])
                for at in range(1 << book.maker_places(name))]

    def column_of(self, saying):
        """The column of a saying of the letters and these makers."""
        if isinstance(saying, str):
            return self.letters[saying]
        columns = self.tables[saying[0]]
        for part in saying[1:]:
            columns = folded(columns, self.column_of(part))
        return columns[0]

    def truths_of(self, column):
        """The truths of a column, as they are told."""
        return tuple([column >> at & 1 for at in reversed(range(self.many))])


def folded(columns, first):
    """Half of the columns by rows: those of the other places, where the first place has this column."""
    half = len(columns) // 2
    return [(first & high) | (~first & low) for low, high in zip(columns[:half], columns[half:])]

"""Cuts between two sides: their atoms, the rows that they take, sheets of atoms."""

from saymakers.books import maker_table
from saymakers.closed import ClosedLot
from saymakers.errors import Refused
from saymakers.forms import exact_own_sheet, parts_of, sheet_rank, text_of
from saymakers.premises import is_within

EMPTY_SHEET = ((), ())
_MOST_ATOMS = 6


def need_few(atoms):
    """The atoms, if they are not too many."""
    if len(atoms) > _MOST_ATOMS:
        raise Refused(_MOST_ATOMS)
    return atoms


def atom_rows(lot, atoms, sheet):
    """The rows of the atoms in the worlds of the lot with all left sayings 1 and all right ones 0, ascending."""
    numbers = [lot.number_of(atom) for atom in atoms]
    left, right = lot.sheet_bits(sheet)
    rows = {}
    for world in lot.worlds(left, right):
        rows[tuple([world >> number & 1 for number in numbers])] = True
    return tuple(sorted(rows))


def side_rows(book, atoms, sheet):
    """The rows of the atoms that the side takes."""
    return atom_rows(ClosedLot(book, atoms + sheet[0] + sheet[1]), atoms, sheet)


def _is_free(book, saying):
    """Whether the saying is a letter, or its maker has an open row."""
    return isinstance(saying, str) or None in maker_table(book, saying[0])


class Cut:
    """Two sides of a calm book, known to be right."""

    def __init__(self, book, first, second):
        self.book = book
        texts = [text_of(part) for part in parts_of(second[0] + second[1])]
        common = [part for part in parts_of(first[0] + first[1]) if text_of(part) in texts]
        self.atoms = need_few(tuple([part for part in common if _is_free(book, part)]))
        self.first = side_rows(book, self.atoms, first)
        self.second = side_rows(book, self.atoms, second)

    def has_middle(self):
        """Whether the joined sides have a proof."""
        return self.are_apart(list(range(len(self.atoms))))

    def are_apart(self, numbers):
        """Whether no row of these atoms is taken by both sides."""
        rows = [tuple([row[number] for number in numbers]) for row in self.second]
        return not any([tuple([row[number] for number in numbers]) in rows for row in self.first])

    def possible(self):
        """The rows that some world has, ascending."""
        return side_rows(self.book, self.atoms, EMPTY_SHEET)

    def least_sheets(self, rows):
        """The least sheets of atoms, none on both sides, that all these rows keep, in order."""
        least = []
        # Lesser ones come first, so one that lies within another is there ahead of it.
        for places in _place_sheets(len(self.atoms)):
            if not any([is_within(less, places) for less in least]) and all([_row_keeps(row, places) for row in rows]):
                least.append(places)
        return tuple(sorted([self._sheet_at(places) for places in least], key=sheet_rank))

    def _sheet_at(self, places):
        """The sheet of the atoms in these places."""
        return tuple([tuple([self.atoms[place] for place in side]) for side in places])

    def is_sheets(self, value):
        """Whether the value is a tuple of unlike sheets of atoms, in order."""
        if not isinstance(value, tuple):
            return False
        makers = dict(self.book.makers)
        ranks = []
        for sheet in value:
            if exact_own_sheet(sheet, makers) is None or not all([each in self.atoms for each in sheet[0] + sheet[1]]):
                return False
            if ranks and ranks[-1] >= sheet_rank(sheet):
                return False
            ranks.append(sheet_rank(sheet))
        return True


def _place_sheets(many):
    """All pairs of ascending tuples of places below many, none on both sides, lesser ones first."""
    sheets = [EMPTY_SHEET]
    for place in range(many):
        lefts = [(left + (place,), right) for left, right in sheets]
        sheets = sheets + lefts + [(left, right + (place,)) for left, right in sheets]
    return [sheet for size in range(many + 1) for sheet in sheets if len(sheet[0] + sheet[1]) == size]


def _row_keeps(row, places):
    """Whether the row has 0 in some left place or 1 in some right one."""
    return 0 in [row[place] for place in places[0]] or 1 in [row[place] for place in places[1]]

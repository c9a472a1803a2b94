"""Middles: sheets of common atoms that stand between two sides, and chains of them."""

from itertools import combinations

from saymakers.books import need_book
from saymakers.closed import ClosedLot, breaks
from saymakers.court import need_calm
from saymakers.cuts import EMPTY_SHEET, Cut, atom_rows, need_few
from saymakers.errors import InvalidSize, Refused
from saymakers.forms import beside, ordered_lot
from saymakers.needs import need_own_sayings, need_own_sheet, need_own_sheets

_MOST_SAYINGS = 14


def _need_row_lot(book, atoms, sheet):
    """The lot of the atoms' and the sheet's sayings and parts, if both are small."""
    lot = ClosedLot(book, need_few(atoms) + sheet[0] + sheet[1])
    if len(lot.sayings) > _MOST_SAYINGS:
        raise InvalidSize("sayings")
    return lot


def possible_rows(book, atoms):
    """The rows that the atoms have in some world, ascending."""
    told = ordered_lot(need_own_sayings(need_book(book), atoms))
    need_calm(book)
    return atom_rows(_need_row_lot(book, told, EMPTY_SHEET), told, EMPTY_SHEET)


def taken_rows(book, atoms, sheet):
    """The rows that the atoms have in some world that breaks the side, ascending."""
    told = ordered_lot(need_own_sayings(need_book(book), atoms))
    side = need_own_sheet(book, sheet)
    need_calm(book)
    return atom_rows(_need_row_lot(book, told, side), told, side)


def _need_cut(book, first, second):
    """The cut between two sides."""
    one = need_own_sheet(need_book(book), first, 0)
    other = need_own_sheet(book, second, 1)
    return Cut(need_calm(book), one, other)


def common_atoms(book, first, second):
    """The atoms of two sides, ascending."""
    return _need_cut(book, first, second).atoms


def first_middle(book, first, second):
    """The middle that each other one follows from; None if there is none."""
    cut = _need_cut(book, first, second)
    return cut.least_sheets(cut.first) if cut.has_middle() else None


def last_middle(book, first, second):
    """The middle that follows from each other one; None if there is none."""
    cut = _need_cut(book, first, second)
    if not cut.has_middle():
        return None
    return cut.least_sheets([row for row in cut.possible() if row not in cut.second])


def some_middle(book, first, second):
    """Some middle of the two sides; None if there is none."""
    return first_middle(book, first, second)


def middle_holds(book, first, second, value):
    """Whether the value is a middle of the two sides."""
    cut = _need_cut(book, first, second)
    sides = (need_own_sheet(book, first), need_own_sheet(book, second))
    return _are_lots(book, sides, [cut], (value,))


def middle_count(book, first, second):
    """How many middles there are, alike ones counted once."""
    cut = _need_cut(book, first, second)
    if not cut.has_middle():
        return 0
    return 1 << len([row for row in cut.possible() if row not in cut.first and row not in cut.second])


def fewest_atoms(book, first, second):
    """All least lots of atoms for whose sheets alone there is a middle; None if there is none."""
    cut = _need_cut(book, first, second)
    if not cut.has_middle():
        return None
    least = []
    numbers = list(range(len(cut.atoms)))
    for many in range(len(numbers) + 1):
        for lot in combinations(numbers, many):
            if not any([all([number in lot for number in less]) for less in least]) and cut.are_apart(lot):
                least.append(lot)
    return tuple([tuple([cut.atoms[number] for number in lot]) for lot in least])


def _need_sides(book, sheets):
    """Two or more sides of a calm book."""
    sides = need_own_sheets(need_book(book), sheets)
    need_calm(book)
    if len(sides) < 2:
        raise Refused(-1)
    return sides


def _joined(sides):
    """All sayings of the sides."""
    whole = EMPTY_SHEET
    for side in sides:
        whole = beside(whole, side)
    return whole


def _cuts_of(book, sides):
    """The cuts behind each side but the last."""
    return [Cut(book, _joined(sides[:at]), _joined(sides[at:])) for at in range(1, len(sides))]


def middle_chain(book, sheets):
    """A lot of sheets between each two neighbours; None if all sides joined have no proof."""
    cuts = _cuts_of(book, _need_sides(book, sheets))
    if not cuts[0].has_middle():
        return None
    return tuple([cut.least_sheets(cut.first) for cut in cuts])


def chain_holds(book, sheets, value):
    """Whether the value is such a chain."""
    sides = _need_sides(book, sheets)
    return _are_lots(book, sides, _cuts_of(book, sides), value)


def _are_lots(book, sides, cuts, value):
    """Whether the value has lots of sheets for the cuts, each side leading from one to the next."""
    if not isinstance(value, tuple) or len(value) != len(cuts):
        return False
    if not all([cut.is_sheets(lot) for cut, lot in zip(cuts, value)]):
        return False
    # No facts are ahead of the first side; the empty sheet, behind the last one, is kept nowhere.
    befores = ((),) + value
    behinds = value + ((EMPTY_SHEET,),)
    return all([_leads(book, side, before, behind) for side, before, behind in zip(sides, befores, behinds)])


def _leads(book, side, before, behind):
    """Whether the side with each sheet behind it beside follows from the sheets before it."""
    sheets = (side,) + before + behind
    lot = ClosedLot(book, [saying for sheet in sheets for half in sheet for saying in half])
    facts = [lot.sheet_bits(sheet) for sheet in before]
    goals = [lot.sheet_bits(sheet) for sheet in behind]
    left, right = lot.sheet_bits(side)
    for world in lot.worlds(left, right):
        if any([breaks(world, goal) for goal in goals]) and not any([breaks(world, fact) for fact in facts]):
            return False
    return True

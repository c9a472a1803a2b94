"""Unfolding: the writing of a maker put for it everywhere."""

from saymakers.books import need_book
from saymakers.closed import ClosedLot
from saymakers.court import need_calm
from saymakers.errors import InvalidSize, Refused
from saymakers.forms import formed_saying, ordered_lot, parts_of
from saymakers.makings import maker_letters, maker_saying, need_writing
from saymakers.needs import need_own_saying, need_own_sheet
from saymakers.proofs import proof_holds
from saymakers.prover import proof_or_world
from saymakers.unfolder import Unfolder
from saymakers.wholly import table_gaps
from saymakers.worlds import breaks_sheet

_MOST_SAYINGS = 14


def _need_unfolder(book, name, writing):
    """What puts the writing for the maker."""
    need_book(book).maker_places(name)
    return Unfolder(name, need_writing(book, name, writing), maker_letters(book, name)[:book.maker_places(name)])


def _unfolded_saying(unfolder, saying):
    """The saying unfolded, if it is not too great."""
    number = unfolder.number_of(saying)
    if unfolder.is_great(number):
        raise InvalidSize("signs")
    return unfolder.saying_of(number)


def _unfolded_sheet(unfolder, sheet):
    """The sheet unfolded, if none of its sayings is too great."""
    return tuple([ordered_lot([_unfolded_saying(unfolder, saying) for saying in side]) for side in sheet])


def unfold_saying(book, name, writing, saying):
    """The saying with the writing put for the maker everywhere."""
    unfolder = _need_unfolder(book, name, writing)
    whole = need_own_saying(book, saying, 1)
    need_calm(book)
    return _unfolded_saying(unfolder, whole)


def unfold_sheet(book, name, writing, sheet):
    """The sheet with the writing put for the maker everywhere."""
    unfolder = _need_unfolder(book, name, writing)
    whole = need_own_sheet(book, sheet)
    need_calm(book)
    return _unfolded_sheet(unfolder, whole)


def _first_alike(book, unfolder, sheet):
    """The first two unlike parts of the sheet, of one open maker, that unfold alike, or None."""
    names = [name for name, places in book.makers if name != unfolder.name and table_gaps(book, name)]
    parts = [part for part in parts_of(sheet[0] + sheet[1]) if not isinstance(part, str) and part[0] in names]
    numbers = [unfolder.number_of(part) for part in parts]
    for at, part in enumerate(parts):
        # What unfolds alike has one maker, as none of the parts is of the one that is written.
        if numbers[at] in numbers[at + 1:]:
            return part, parts[numbers.index(numbers[at], at + 1)]
    return None


def like_unfolded(book, name, writing, sheet):
    """The first two unlike parts of the sheet, of one open maker, another one, that unfold alike, or None."""
    unfolder = _need_unfolder(book, name, writing)
    whole = need_own_sheet(book, sheet)
    need_calm(book)
    _unfolded_sheet(unfolder, whole)
    return _first_alike(book, unfolder, whole)


class Unfolding:
    """A sheet of a calm book, the sheet unfolded, and the lots of their parts; the maker is written so."""

    def __init__(self, book, name, writing, sheet):
        self.unfolder = _need_unfolder(book, name, writing)
        self.sheets = (need_own_sheet(book, sheet),)
        need_calm(book)
        self.sheets = self.sheets + (_unfolded_sheet(self.unfolder, self.sheets[0]),)
        own = maker_saying(book, name)
        told = self.unfolder.writing
        written = ClosedLot(book, (own, told))
        self.lots = [ClosedLot(book, each[0] + each[1]) for each in self.sheets]
        if any([len(lot.sayings) > _MOST_SAYINGS for lot in [written] + self.lots]):
            raise InvalidSize("sayings")
        if any([written.worlds(written.bits_of((one,)), written.bits_of((other,)))
                for one, other in ((own, told), (told, own))]):
            raise Refused(-1)


def unfold_paper(book, name, writing, sheet):
    """Proofs of the sheet and of the unfolded one, worlds that break them, or one of each."""
    case = Unfolding(book, name, writing, sheet)
    proof, world = proof_or_world(case.lots[0], case.sheets[0])
    other_proof, other_world = proof_or_world(case.lots[1], case.sheets[1])
    if world is None:
        return ("both", proof, other_proof)
    if other_world is not None:
        return ("neither", world, other_world)
    return ("unfolded", other_proof, world, _first_alike(book, case.unfolder, case.sheets[0]))


def unfold_holds(book, name, writing, sheet, value):
    """Whether the value is such a paper, of any proofs, worlds and parts, these in either order."""
    case = Unfolding(book, name, writing, sheet)
    first, second = case.sheets
    if not isinstance(value, tuple) or len(value) not in (3, 4):
        return False
    if value[0] == "both":
        return len(value) == 3 and proof_holds(book, first, value[1]) and proof_holds(book, second, value[2])
    if value[0] == "neither":
        return len(value) == 3 and breaks_sheet(book, first, value[1]) and breaks_sheet(book, second, value[2])
    if value[0] != "unfolded" or len(value) != 4 or not proof_holds(book, second, value[1]):
        return False
    return breaks_sheet(book, first, value[2]) and _are_alike(book, case, value[3])


def _are_alike(book, case, value):
    """Whether the value is two unlike parts of the sheet, of one open maker, that unfold alike."""
    if not isinstance(value, tuple) or len(value) != 2:
        return False
    one, other = [formed_saying(part, False) for part in value]
    parts = case.lots[0].sayings
    if one not in parts or other not in parts or isinstance(one, str) or one == other or one[0] != other[0]:
        return False
    # The maker that is written is whole, so that it is another one.
    return bool(table_gaps(book, one[0])) and case.unfolder.number_of(one) == case.unfolder.number_of(other)

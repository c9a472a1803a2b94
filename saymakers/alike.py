"""Alike sayings, whether they may be exchanged everywhere, and makings that close open rows."""

from saymakers.books import maker_table, need_book
from saymakers.closed import ClosedLot
from saymakers.court import need_calm
from saymakers.errors import InvalidIndex
from saymakers.forms import own_saying, parts_of, sheet_rank, text_of
from saymakers.holes import can_be, is_around, parted, world_apart
from saymakers.kinds import is_number_below, rows_of
from saymakers.needs import need_own_saying, need_own_sayings, need_own_sheet
from saymakers.proofs import proof_holds
from saymakers.prover import sheet_proof
from saymakers.trees import Follower, world_against
from saymakers.wholly import table_gaps
from saymakers.worlds import is_kept, own_truths


def _tables(book):
    """The table by rows of each maker with places of a calm book, by names."""
    return {name: dict(zip(rows_of(places), maker_table(book, name))) for name, places in book.makers if places}


def _kind_of(book):
    """Which alike sayings are exchanged everywhere in a calm book."""
    told = [(row, truth) for table in _tables(book).values() for row, truth in table.items()]
    if all([truth is not None for row, truth in told]):
        return "all"
    if all([truth == 1 for row, truth in told if 1 in row]):
        return "had"
    if all([truth == 0 for row, truth in told if 0 in row]):
        return "barred"
    return "none"


def exchange_kind(book):
    """Which alike sayings are exchanged everywhere: all, those had, those barred, none but equal ones."""
    return _kind_of(need_calm(book))


def _are_exchanged(book, one):
    """Whether the saying is exchanged everywhere with those alike."""
    kind = _kind_of(book)
    if kind == "had":
        return not can_be(book, one, 0)
    if kind == "barred":
        return not can_be(book, one, 1)
    return kind == "all"


def _need_two(book, one, other):
    """Two sayings of a calm book."""
    first = need_own_saying(need_book(book), one, 0)
    second = need_own_saying(book, other, 1)
    need_calm(book)
    return first, second


def exchange_paper(book, one, other):
    """Whether two sayings are the same, told apart, exchanged everywhere, or told apart within some saying."""
    first, second = _need_two(book, one, other)
    if first == second:
        return ("same",)
    world = world_apart(book, first, second)
    if world is not None:
        return ("unlike", world)
    if not _are_exchanged(book, first):
        return ("parted",) + parted(book, _tables(book), first, second)
    lot = ClosedLot(book, (first, second))
    return ("everywhere", sheet_proof(lot, ((first,), (second,))), sheet_proof(lot, ((second,), (first,))))


def exchange_holds(book, one, other, value):
    """Whether the value is such a tuple, with joins or not, with any makers around the hole."""
    first, second = _need_two(book, one, other)
    if not isinstance(value, tuple) or not value:
        return False
    if first == second or value[0] == "same":
        return first == second and value == ("same",)
    if value[0] == "unlike":
        return len(value) == 2 and _tells_apart(book, first, second, value[1])
    if value[0] == "everywhere":
        return len(value) == 3 and _are_exchanged(book, first) and proof_holds(
            book, ((first,), (second,)), value[1]) and proof_holds(book, ((second,), (first,)), value[2])
    return value[0] == "parted" and len(value) == 4 and _are_parted(book, (first, second), value)


def _tells_apart(book, one, other, value):
    """Whether the value is a world of just the parts of two sayings that tells them apart."""
    truths = own_truths(book, value)
    if truths is None or tuple([saying for saying, truth in value]) != parts_of((one, other)):
        return False
    return truths[text_of(one)] != truths[text_of(other)]


def _are_parted(book, alike, value):
    """Whether two alike sayings in one hole are told apart by a world, as the value tells."""
    places = dict(book.makers)
    first = own_saying(value[1], places, False)
    second = own_saying(value[2], places, False)
    if first is None or second is None or not is_around(first, second, alike[0], alike[1]):
        return False
    return _tells_apart(book, first, second, value[3]) and world_apart(book, alike[0], alike[1]) is None


def _gaps(book):
    """(maker, row) for all open rows of a calm book, maker after maker."""
    return [(name, row) for name, places in book.makers for row in table_gaps(book, name)]


def making_count(book):
    """In how many ways all open rows can be told."""
    return 1 << len(_gaps(need_calm(book)))


def nth_making(book, number):
    """The making whose truths of the open rows are the number's binary digits."""
    gaps = _gaps(need_calm(book))
    if not is_number_below(number, 1 << len(gaps)):
        raise InvalidIndex(-1)
    tables = _making(book, gaps, number)
    return tuple([(name, tuple([tables[(name, row)] for row in rows_of(places)])) for name, places in book.makers])


def _making(book, gaps, number):
    """The truths by (maker, row) of the making of this number."""
    told = {}
    for name, places in book.makers:
        for row, truth in zip(rows_of(places), maker_table(book, name)):
            told[(name, row)] = truth
    for at, gap in enumerate(reversed(gaps)):
        told[gap] = number >> at & 1
    return told


def _likeness(book, sayings):
    """The like sheets of sayings of a calm book, in order."""
    lot = ClosedLot(book, sayings)
    found = {}
    made = [saying for saying in lot.sayings if not isinstance(saying, str)]
    for one in made:
        for other in made:
            if one[0] != other[0] or one == other:
                continue
            for row in table_gaps(book, one[0]):
                sides = [lot.bits_of((other,)), lot.bits_of((one,))]
                for first, second, truth in zip(one[1:], other[1:], row):
                    sides[truth] = sides[truth] | lot.bits_of((first, second))
                if not sides[0] & sides[1]:
                    found[(sides[1], sides[0])] = True
    return tuple(sorted([lot.sheet_of(left, right) for left, right in found], key=sheet_rank))


def like_sheets(book, sayings):
    """The sheets by which sayings of one maker are alike if what stands in their places is, in open rows."""
    told = need_own_sayings(need_book(book), sayings)
    return _likeness(need_calm(book), told)


def _need_sheet(book, sheet):
    """The sheet in order, of a calm book's sayings."""
    whole = need_own_sheet(need_book(book), sheet)
    need_calm(book)
    return whole


def always_paper(book, sheet):
    """A proof from the like sheets, or a making and a world with its truths that does not keep the sheet."""
    whole = _need_sheet(book, sheet)
    facts = _likeness(book, whole[0] + whole[1])
    lot = ClosedLot(book, whole[0] + whole[1])
    world = world_against(lot, facts, whole)
    if world is None:
        left, right = lot.sheet_bits(whole)
        follower = Follower(lot, facts)
        return ("always", follower.joined_proof(follower.tree(left, right)))
    pairs = lot.world_pairs(world)
    told = {row: truth for row, truth in _rows_told(pairs)}
    gaps = _gaps(book)
    return ("made", sum([told.get(gap, 0) << at for at, gap in enumerate(reversed(gaps))]), pairs)


def _rows_told(pairs):
    """((maker, row), truth) for each saying with a maker in a world, told in pairs."""
    truths = {text_of(saying): truth for saying, truth in pairs}
    made = [(saying, truth) for saying, truth in pairs if not isinstance(saying, str)]
    return [((saying[0], tuple([truths[text_of(part)] for part in saying[1:]])), truth) for saying, truth in made]


def always_holds(book, sheet, value):
    """Whether the value is such a tuple, of any proof, making and world."""
    whole = _need_sheet(book, sheet)
    if not isinstance(value, tuple) or not value:
        return False
    if value[0] == "always":
        return len(value) == 2 and proof_holds(book, whole, value[1], _likeness(book, whole[0] + whole[1]))
    return value[0] == "made" and len(value) == 3 and _is_made(book, whole, value[1], value[2])


def _is_made(book, sheet, number, value):
    """Whether the value is a world of the sheet's parts with the truths of a making that does not keep it."""
    gaps = _gaps(book)
    truths = own_truths(book, value)
    if truths is None or not is_number_below(number, 1 << len(gaps)):
        return False
    if tuple([saying for saying, truth in value]) != parts_of(sheet[0] + sheet[1]) or is_kept(truths, sheet):
        return False
    making = _making(book, gaps, number)
    return all([making[row] == truth for row, truth in _rows_told(value)])

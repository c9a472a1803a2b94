"""Makers told wholly or not: proofs whose starts are letters, half-worlds, lots whose letters tell all."""

from saymakers.books import maker_table, need_book, truths_told
from saymakers.closed import ClosedLot
from saymakers.court import need_calm
from saymakers.forms import parts_of, text_of
from saymakers.kinds import PLACE_LETTERS, is_number_below, row_of_places, rows_of
from saymakers.needs import need_own_sayings, need_own_sheet
from saymakers.proofreader import listed_parts
from saymakers.proofs import proof_holds
from saymakers.prover import Prover

_HALF = 2


def table_gaps(book, name):
    """The open rows of a maker of a calm book, ascending."""
    rows = rows_of(book.maker_places(name))
    return tuple([row for row, truth in zip(rows, maker_table(book, name)) if truth is None])


def open_rows(book, maker):
    """The rows of the maker in which no rule is awake, ascending."""
    need_book(book).maker_places(maker)
    return table_gaps(need_calm(book), maker)


def _own_sheet(book, maker):
    """The sheet with the maker's saying of letters on both sides."""
    whole = (maker,) + PLACE_LETTERS[:book.maker_places(maker)]
    return ((whole,), (whole,))


def whole_paper(book, maker):
    """A proof of the maker's saying from itself with letters as starts, or the maker's first open row."""
    rows = open_rows(book, maker)
    if rows:
        return ("open", rows[0])
    sheet = _own_sheet(book, maker)
    lot = ClosedLot(book, sheet[0])
    return ("whole", _letters_proof(Prover(lot, lot.letters), sheet))


def _letters_proof(prover, sheet):
    """A proof of the sheet without joins, its starts letters, or None."""
    left, right = prover.lot.sheet_bits(sheet)
    part = prover.proved(left, right)
    return None if part is None else prover.bench.proof_with_end(part, left, right)


def _is_letters_proof(book, sheet, value):
    """Whether the value is a proof of the sheet with letters as starts."""
    if not proof_holds(book, sheet, value):
        return False
    return all([part[0] != "start" or isinstance(part[1], str) for part in listed_parts(value)])


def whole_holds(book, maker, value):
    """Whether the value is such a pair, of any proof or open row."""
    rows = open_rows(book, maker)
    if not isinstance(value, tuple) or len(value) != 2:
        return False
    if value[0] == "whole":
        return _is_letters_proof(book, _own_sheet(book, maker), value[1])
    return value[0] == "open" and row_of_places(value[1], book.maker_places(maker), lists=False) in rows


def _need_sheet(book, sheet):
    """The sheet in order, of a calm book's sayings."""
    whole = need_own_sheet(need_book(book), sheet)
    need_calm(book)
    return whole


def letters_paper(book, sheet):
    """A proof of the sheet without joins, its starts letters, or a half-world in which it is not kept."""
    whole = _need_sheet(book, sheet)
    lot = ClosedLot(book, whole[0] + whole[1])
    prover = Prover(lot, lot.letters)
    proof = _letters_proof(prover, whole)
    if proof is not None:
        return ("proof", proof)
    return ("half", _halves_of(lot, prover.stuck[0], prover.stuck[1]))


def _halves_of(lot, left, right):
    """The half-world of a sheet from which no rule leads on.

    No rule for what stands on one side is awake, as one of its premises would stand in the sheet already.
    """
    truths = {}
    for number, saying in enumerate(lot.sayings):
        sides = (left >> number & 1, right >> number & 1)
        if sides == (1, 1):
            truth = _HALF
        elif sides == (0, 0):
            told = _told_by_halves(lot.book, saying, truths)
            truth = told[0] if told else 0
        else:
            truth = sides[0]
        truths[text_of(saying)] = truth
    return tuple([(saying, truths[text_of(saying)]) for saying in lot.sayings])


def _told_by_halves(book, saying, truths):
    """What the rules tell the saying; a premise does not hold by a half, as it is neither 0 nor 1."""
    if isinstance(saying, str):
        return ()
    return truths_told(book, saying[0], tuple([truths[text_of(part)] for part in saying[1:]]))


def letters_hold(book, sheet, value):
    """Whether the value is such a pair, with joins or not."""
    whole = _need_sheet(book, sheet)
    if not isinstance(value, tuple) or len(value) != 2:
        return False
    if value[0] == "proof":
        return _is_letters_proof(book, whole, value[1])
    return value[0] == "half" and _are_halves(book, whole, value[1])


def _are_halves(book, sheet, value):
    """Whether the value is a half-world of the sheet's parts that counts as 1 on its left, as 0 on its right."""
    lot = parts_of(sheet[0] + sheet[1])
    if not isinstance(value, tuple) or len(value) != len(lot):
        return False
    truths = {}
    for saying, pair in zip(lot, value):
        if not isinstance(pair, tuple) or len(pair) != 2 or pair[0] != saying:
            return False
        if not is_number_below(pair[1], _HALF if isinstance(saying, str) else _HALF + 1):
            return False
        told = _told_by_halves(book, saying, truths)
        if told and pair[1] not in told:
            return False
        truths[text_of(saying)] = pair[1]
    return all([truths[text_of(saying)] != 0 for saying in sheet[0]]) and all(
        [truths[text_of(saying)] != 1 for saying in sheet[1]])


def lot_paper(book, sayings):
    """Whether the letters' truths tell those of all sayings, or two worlds that tell the letters alike."""
    lot = ClosedLot(book, need_own_sayings(need_book(book), sayings))
    need_calm(book)
    firsts = {}
    for world in lot.worlds():
        first = firsts.setdefault(world & lot.letters, world)
        if first != world:
            return ("two", lot.world_pairs(first), lot.world_pairs(world))
    return ("one",)

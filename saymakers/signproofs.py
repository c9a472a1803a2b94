"""Proofs of many signs: their ends, and papers of proofs and worlds."""

from saymakers.errors import InvalidProof, InvalidSheet, Refused
from saymakers.forms import text_of
from saymakers.signbits import PairBits
from saymakers.signforms import is_formed_proof, own_sign_world, own_signs, proofs_within
from saymakers.signs import need_signed, signed_court
from saymakers.signsearch import SignProver, makers_with_joins, some_sign_world

_MOST_PARTS = 1999
_MOST_DEEP = 100


def _need_signs(signed, sheet):
    """The sheet of signs in order, of the book's sayings."""
    whole = own_signs(need_signed(signed), sheet)
    if whole is None:
        raise InvalidSheet(-1)
    return whole


def _listed_parts(signed, proof):
    """(part, how many stand around it, itself too) for all parts of a proof in the order of their numbers."""
    parts = []
    rest = [(proof, 1)]
    while rest:
        part, deep = rest.pop()
        if not is_formed_proof(signed, part):
            raise InvalidProof(len(parts))
        parts.append((part, deep))
        rest.extend([(kid, deep + 1) for kid in reversed(proofs_within(part))])
    return parts


def _end_of(signed, parts):
    """The sheet that a proof with these listed parts proves."""
    pairs = PairBits(signed.count)
    ends = []
    for part, deep in reversed(parts):
        # From the last part back, the ends of the proofs within lie on top, the first one's uppermost.
        kids = [ends.pop() for kid in proofs_within(part)]
        ends.append(_part_end(signed, pairs, part, kids))
    return pairs.signs_of(ends[0])


def _part_end(signed, pairs, part, kids):
    """The bits of the end of a part, those within having these ends."""
    if part[0] == "start":
        return pairs.all_signs(part[1])
    if part[0] == "thin":
        return pairs.pair_bits(part[1]) | kids[0]
    if part[0] == "join":
        return pairs.joined_end(part[1], kids[0], kids[1])
    name, lot, premises = signed.rules[part[1]]
    end = pairs.pair_bits([(sign, (name,) + part[2]) for sign in lot])
    for kid, premise in zip(kids, pairs.filled_premises(premises, part[2])):
        end = end | (kid & ~premise)
    return end


def signed_end(signed, proof):
    """The sheet of signs that the proof proves."""
    return _end_of(signed, _listed_parts(need_signed(signed), proof))


def signed_paper(signed, sheet):
    """A proof of the sheet with joins only where they are needed, or a world with none of its pairs."""
    whole = _need_signs(signed, sheet)
    if signed_court(signed) != ("calm",):
        raise Refused(-1)
    world = some_sign_world(signed, whole)
    if world is not None:
        return ("world", world)
    return ("proof", SignProver(signed, whole, makers_with_joins(signed)).sheet_proof())


def signed_holds(signed, sheet, value):
    """Whether the value is such a paper, with any joins, of any sayings."""
    whole = _need_signs(signed, sheet)
    if not isinstance(value, tuple) or len(value) != 2:
        return False
    if value[0] == "proof":
        return _is_proof(signed, whole, value[1])
    return value[0] == "world" and _is_barring(signed, whole, value[1])


def _is_proof(signed, sheet, value):
    """Whether the value is a proof of the sheet that is not too long."""
    try:
        parts = _listed_parts(signed, value)
    except InvalidProof:
        return False
    if len(parts) > _MOST_PARTS or max([deep for part, deep in parts]) > _MOST_DEEP:
        return False
    return _end_of(signed, parts) == sheet


def _is_barring(signed, sheet, value):
    """Whether the value is a world with all sayings of the sheet and none of its pairs."""
    signs = own_sign_world(signed, value)
    if signs is None:
        return False
    return all([signs.get(text_of(saying), sign) != sign for sign, saying in sheet])


def joinless_proof(signed, sheet):
    """A proof of the sheet without joins, or None."""
    return SignProver(signed, _need_signs(signed, sheet), []).sheet_proof()

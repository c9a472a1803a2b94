"""Sheets, proofs and worlds of many signs: the values that are such."""

from saymakers.forms import is_too_great, own_saying, rank_of, text_of
from saymakers.kinds import is_number_below, is_sequence
from saymakers.signs import signed_table

_LENGTHS = {"start": 2, "thin": 3, "rule": 4, "join": 4}


def own_signs(signed, value, lists=True):
    """The value as a sheet of signs in order of the book's sayings, or None."""
    if not is_sequence(value, lists):
        return None
    places = dict(signed.makers)
    pairs = []
    for pair in value:
        if not is_sequence(pair, lists) or len(pair) != 2 or not is_number_below(pair[0], signed.count):
            return None
        saying = own_saying(pair[1], places, lists)
        if saying is None:
            return None
        pairs.append((pair[0], saying))
    return signs_in_order(pairs)


def signs_in_order(pairs):
    """The pairs ascending by sayings, then signs, each once."""
    ranked = {(rank_of(saying), sign): (sign, saying) for sign, saying in pairs}
    return tuple([ranked[rank] for rank in sorted(ranked)])


def proofs_within(proof):
    """The proofs that stand in a proof of signs, as they are written."""
    return proof[3] if proof[0] == "rule" else proof[2:]


def is_formed_proof(signed, value):
    """Whether the value has the form of a proof of signs, but for the proofs within it."""
    if not isinstance(value, tuple) or not value or not isinstance(value[0], str):
        return False
    word = value[0]
    if len(value) != _LENGTHS.get(word, 0):
        return False
    if word == "thin":
        return isinstance(value[1], tuple) and own_signs(signed, value[1], False) == value[1]
    if word != "rule":
        return own_saying(value[1], dict(signed.makers), False) is not None
    return _is_formed_rule(signed, value[1], value[2], value[3])


def _is_formed_rule(signed, number, sayings, proofs):
    """Whether these values are a rule's number, as many sayings as places and proofs as premises."""
    if not is_number_below(number, len(signed.rules)) or not isinstance(sayings, tuple):
        return False
    name, _, premises = signed.rules[number]
    places = dict(signed.makers)
    if len(sayings) != places[name] or None in [own_saying(saying, places, False) for saying in sayings]:
        return False
    return not is_too_great((name,) + sayings) and isinstance(proofs, tuple) and len(proofs) == len(premises)


class SignTables:
    """The tables of all makers of a book of signs, by rows."""

    def __init__(self, signed):
        self.count = signed.count
        self.places = dict(signed.makers)
        self._tables = {name: signed_table(signed, name) for name, places in signed.makers}

    def signs_let(self, saying, signs):
        """The signs that the saying may have; the dict has those of its parts by their texts."""
        if isinstance(saying, str):
            return tuple(range(self.count))
        at = 0
        for part in saying[1:]:
            at = at * self.count + signs[text_of(part)]
        return self._tables[saying[0]][at]


def own_sign_world(signed, value):
    """The signs, by texts, of a value that is a world of signs; None for any other value."""
    if not isinstance(value, tuple):
        return None
    tables = SignTables(signed)
    signs = {}
    ranks = []
    for pair in value:
        if not isinstance(pair, tuple) or len(pair) != 2 or not is_number_below(pair[1], signed.count):
            return None
        saying = own_saying(pair[0], tables.places, False)
        if saying is None or (ranks and ranks[-1] >= rank_of(saying)) or not _parts_are_there(saying, signs):
            return None
        if pair[1] not in tables.signs_let(saying, signs):
            return None
        ranks.append(rank_of(saying))
        signs[text_of(saying)] = pair[1]
    return signs


def _parts_are_there(saying, signs):
    """Whether the dict has a sign for each part right within the saying."""
    return isinstance(saying, str) or all([text_of(part) in signs for part in saying[1:]])

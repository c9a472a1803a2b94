"""Reading values as proofs, part by part as they are written."""

from saymakers.errors import InvalidFacts, InvalidProof
from saymakers.forms import exact_own_sheet, is_too_great, own_saying, own_sheet
from saymakers.kinds import is_number_below, is_sequence
from saymakers.parts import Bench

MOST_PARTS_DEEP = 80
_LENGTHS = {"start": 2, "told": 2, "thin": 3, "rule": 4, "join": 4}


def need_facts(book, facts):
    """The facts, each a sheet in order of the book's sayings."""
    if not is_sequence(facts):
        raise InvalidFacts(-1)
    places = dict(book.makers)
    formed = []
    for at, value in enumerate(facts):
        sheet = own_sheet(value, places)
        if sheet is None:
            raise InvalidFacts(at)
        formed.append(sheet)
    return tuple(formed)


def is_rule_what(book, places, rule, sayings):
    """Whether these values are a rule's number and as many sayings as it has places."""
    if not is_number_below(rule, len(book.rules)) or not isinstance(sayings, tuple):
        return False
    name = book.rules[rule][0]
    if len(sayings) != places[name] or None in [own_saying(saying, places, False) for saying in sayings]:
        return False
    return not is_too_great((name,) + sayings)


class ProofReader:
    """Reads proofs for a book with facts onto a bench."""

    def __init__(self, book, facts=()):
        self.book = book
        self.facts = facts
        self.bench = Bench(book)
        self._places = dict(book.makers)
        self._seen = 0

    def read(self, value, deep=1):
        """The part that the value is, so deep within the whole."""
        at = self._seen
        self._seen += 1
        if deep > MOST_PARTS_DEEP or not self.is_formed(value):
            raise InvalidProof(at)
        kids = []
        for kid in proofs_within(value):
            kids.append(self.read(kid, deep + 1))
        return self._part(value, tuple(kids))

    def is_formed(self, value):
        """Whether the value has the form of a proof, but for the proofs within it."""
        if not isinstance(value, tuple) or not value or not isinstance(value[0], str):
            return False
        word = value[0]
        if len(value) != _LENGTHS.get(word, 0):
            return False
        if word == "told":
            return is_number_below(value[1], len(self.facts))
        if word == "thin":
            return exact_own_sheet(value[1], self._places) is not None
        if word != "rule":
            return own_saying(value[1], self._places, False) is not None
        if not is_rule_what(self.book, self._places, value[1], value[2]):
            return False
        return isinstance(value[3], tuple) and len(value[3]) == len(self.book.rules[value[1]][2])

    def _part(self, value, kids):
        """The part of the value that has the form of a proof."""
        if value[0] == "start":
            return self.bench.start_part(value[1])
        if value[0] == "told":
            return self.bench.told_part(value[1], self.facts[value[1]])
        if value[0] == "thin":
            return self.bench.thin_part(value[1], kids[0])
        if value[0] == "join":
            return self.bench.join_part(value[1], kids[0], kids[1])
        return self.bench.rule_part(value[1], value[2], kids)


def proofs_within(proof):
    """The proofs that stand in a proof, as they are written."""
    if proof[0] == "rule":
        return proof[3]
    return proof[2:]


def listed_parts(proof):
    """All parts of a proof in the order of their numbers."""
    parts = []
    rest = [proof]
    while rest:
        part = rest.pop()
        parts.append(part)
        rest.extend(list(reversed(proofs_within(part))))
    return parts

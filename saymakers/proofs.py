"""Proofs as nested tuples: their ends, rows and fillings, and cutting them short."""

from saymakers.books import need_book
from saymakers.errors import InvalidProof, InvalidSaying, Refused
from saymakers.forms import exact_own_sheet, filled_saying, filled_sheet, filling_table, is_too_great, own_saying
from saymakers.kinds import is_number_below
from saymakers.needs import need_own_sheet
from saymakers.parts import Bench
from saymakers.proofreader import (
    MOST_PARTS_DEEP, ProofReader, is_rule_what, listed_parts, need_facts, proofs_within)
from saymakers.shorten import shortened


def need_proof(book, value, facts=()):
    """The value, if it is a proof."""
    ProofReader(book, need_facts(need_book(book), facts)).read(value)
    return value


def proof_end(book, proof, facts=()):
    """The sheet that the proof proves."""
    reader = ProofReader(book, need_facts(need_book(book), facts))
    part = reader.read(proof)
    return reader.bench.sheet_of(part.left, part.right)


def proof_holds(book, sheet, value, facts=()):
    """Whether the value is a proof with just this end."""
    whole = need_own_sheet(need_book(book), sheet)
    formed = need_facts(book, facts)
    try:
        return proof_end(book, value, formed) == whole
    except InvalidProof:
        return False


def joined_sayings(book, proof):
    """The sayings of the joins, in the order of their numbers."""
    return tuple([part[1] for part in listed_parts(need_proof(book, proof)) if part[0] == "join"])


def proof_height(book, proof):
    """How many rules and joins stand on the longest way."""
    return ProofReader(need_book(book)).read(proof).height


def proof_rows(book, proof):
    """A row (end, word, what, numbers of the rows within) for each unlike part."""
    reader = ProofReader(need_book(book))
    reader.read(proof)
    # A bench numbers parts just so: behind those within them, the first ones ahead, each once.
    rows = []
    for part in reader.bench.parts:
        sheet = reader.bench.sheet_of(part.left, part.right)
        rows.append((sheet, part.word, part.what, tuple([kid.number for kid in part.kids])))
    return tuple(rows)


def row_proof(book, rows):
    """The proof that the last row tells."""
    bench = Bench(need_book(book))
    if not isinstance(rows, tuple) or not rows:
        raise Refused(-1)
    parts = []
    for at, row in enumerate(rows):
        part = _row_part(bench, row, parts)
        if part is None:
            raise Refused(at)
        parts.append(part)
    return bench.proof_of(parts[-1])


def _row_part(bench, row, parts):
    """The part that the row tells, whose numbers are those of parts; None for any other value."""
    if not isinstance(row, tuple) or len(row) != 4 or not isinstance(row[3], tuple):
        return None
    sheet, word, what, numbers = row
    if not all([is_number_below(number, len(parts)) for number in numbers]):
        return None
    kids = tuple([parts[number] for number in numbers])
    part = _made_part(bench, dict(bench.book.makers), word, what, kids)
    if part is None or part.deep > MOST_PARTS_DEEP or bench.sheet_of(part.left, part.right) != sheet:
        return None
    return part


def _made_part(bench, places, word, what, kids):
    """The part of this word, of any value besides and these kids, or None."""
    if word == "thin":
        if len(kids) != 1 or exact_own_sheet(what, places) is None:
            return None
        return bench.thin_part(what, kids[0])
    if word == "rule":
        if not isinstance(what, tuple) or len(what) != 2 or not is_rule_what(bench.book, places, what[0], what[1]):
            return None
        return bench.rule_part(what[0], what[1], kids) if len(kids) == len(bench.book.rules[what[0]][2]) else None
    if own_saying(what, places, False) is None:
        return None
    if word == "start" and not kids:
        return bench.start_part(what)
    return bench.join_part(what, kids[0], kids[1]) if word == "join" and len(kids) == 2 else None


def filled_proof(book, proof, filling):
    """The proof with sayings put for letters everywhere."""
    need_proof(book, proof)
    return _filled_part(book, proof, filling_table(filling, dict(book.makers)))


def _filled_part(book, proof, table):
    """The proof filled by the table."""
    if proof[0] == "thin":
        sheet = filled_sheet(proof[1], table)
        _need_small(sheet[0] + sheet[1])
        return ("thin", sheet, _filled_part(book, proof[2], table))
    proofs = tuple([_filled_part(book, kid, table) for kid in proofs_within(proof)])
    if proof[0] == "rule":
        sayings = tuple([filled_saying(saying, table) for saying in proof[2]])
        _need_small([(book.rules[proof[1]][0],) + sayings])
        return ("rule", proof[1], sayings, proofs)
    saying = filled_saying(proof[1], table)
    _need_small([saying])
    return (proof[0], saying) + proofs


def _need_small(sayings):
    """No filled saying may be too great."""
    for saying in sayings:
        if is_too_great(saying):
            raise InvalidSaying(-1)


def cut_short(book, proof):
    """A proof of the same end, at most as high as there are sayings and parts to put in."""
    reader = ProofReader(need_book(book))
    part = reader.read(proof)
    for at, each in enumerate(listed_parts(proof)):
        if each[0] == "join":
            raise Refused(at)
    short = shortened(reader.bench, part, part.left, part.right, {})
    return reader.bench.proof_with_end(short, part.left, part.right)

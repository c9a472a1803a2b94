"""Proofs shown in lines."""

from saymakers.forms import text_of
from saymakers.proofreader import ProofReader
from saymakers.sayings import sheet_text


def proof_lines(book, facts, proof):
    """A line for each unlike part, behind those within it, the whole last."""
    reader = ProofReader(book, facts)
    reader.read(proof)
    # A bench numbers parts just so.
    lines = []
    for part in reader.bench.parts:
        sheet = reader.bench.sheet_of(part.left, part.right)
        lines.append(f"{part.number}: {sheet_text(sheet)} by {_way(part)}")
    return lines


def _way(part):
    """How the part comes to its end."""
    head = part.word
    if part.word == "told":
        head = f"fact {part.what}"
    elif part.word == "rule":
        head = f"rule {part.what[0]}"
    elif part.word == "join":
        head = f"join on {text_of(part.what)}"
    if not part.kids:
        return head
    return head + " from " + ", ".join([str(kid.number) for kid in part.kids])

"""Taking joins out of proofs, step by step."""

from saymakers.books import need_book
from saymakers.errors import Refused
from saymakers.proofreader import ProofReader
from saymakers.shorten import lies_in, shortened
from saymakers.steps import found_steps

_EMPTY = ((), ())


class JoinRemover:
    """Joins proofs without joins and thinnings so that no join is left.

    Sheets are pairs of bits as a bench tells them, sayings are its numbers.
    """

    def __init__(self, bench):
        self.bench = bench
        self._kept = {}

    def joined(self, number, one, other):
        """A proof without joins whose end lies within that of a join on the saying."""
        # The steps are worked off from a list, as they can be more than calls can be nested.
        todo = [(one, other)]
        while todo:
            first, second = todo[-1]
            missing = self._missing(number, first, second)
            if missing:
                todo.extend(missing)
            else:
                todo.pop()
                self._settle(number, first, second)
        return self._done(number, one, other)

    def _done(self, number, one, other):
        """What the two come to, or None if it is not worked out yet."""
        bit = 1 << number
        if not one.right & bit or (other.word == "start" and other.left == bit):
            return one
        if not other.left & bit or (one.word == "start" and one.right == bit):
            return other
        left, right = _join_end(bit, one, other)
        if left & right:
            return shortened(self.bench, one, left, right, {})
        return self._kept.get((number, one.number, other.number))

    def _missing(self, number, one, other):
        """The pairs that the two hang on and that are not worked out yet."""
        if self._done(number, one, other) is not None:
            return []
        return [pair for pair in self._pairs(number, one, other) if self._done(number, pair[0], pair[1]) is None]

    def _pairs(self, number, one, other):
        """The pairs that the two, both ending by rules, hang on."""
        bit = 1 << number
        if one.own[1] != bit:
            return [(kid, other) for kid, premise in zip(one.kids, one.premises) if not premise[1] & bit]
        if other.own[0] != bit:
            return [(one, kid) for kid, premise in zip(other.kids, other.premises) if not premise[0] & bit]
        if self._clash(one, other) is None:
            raise Refused((one.what[0], other.what[0]))
        return [(kid, other) for kid in one.kids] + [(one, kid) for kid in other.kids]

    def _clash(self, one, other):
        """The steps by which the rules that the two end by clash, or None."""
        rules = self.bench.book.rules
        return found_steps(rules[one.what[0]][2] + rules[other.what[0]][2], _EMPTY)

    def _settle(self, number, one, other):
        """Works out the two, as all that they hang on is."""
        if self._done(number, one, other) is not None:
            return
        bit = 1 << number
        if one.own[1] != bit:
            kids = [kid if premise[1] & bit else self._done(number, kid, other)
                    for kid, premise in zip(one.kids, one.premises)]
            part = self.bench.rule_like(one, tuple(kids))
        elif other.own[0] != bit:
            kids = [kid if premise[0] & bit else self._done(number, one, kid)
                    for kid, premise in zip(other.kids, other.premises)]
            part = self.bench.rule_like(other, tuple(kids))
        else:
            part = self._met(number, one, other)
        left, right = _join_end(bit, one, other)
        self._kept[(number, one.number, other.number)] = shortened(self.bench, part, left, right, {})

    def _met(self, number, one, other):
        """Joins on the places in the stead of a join on the saying that both rules are for."""
        left, right = _join_end(1 << number, one, other)
        proofs = [self._done(number, kid, other) for kid in one.kids]
        proofs.extend([self._done(number, one, kid) for kid in other.kids])
        for proof in proofs:
            if lies_in(proof.left, proof.right, left, right):
                return proof
        sayings = one.what[1]
        for first, second, place in self._clash(one, other):
            saying = self.bench.number_of(sayings[place - 1])
            proofs.append(self.joined(saying, proofs[first], proofs[second]))
        return proofs[-1]


def _join_end(bit, one, other):
    """The end of a join of the two on the saying of this bit."""
    return one.left | (other.left & ~bit), (one.right & ~bit) | other.right


def _joinless_parts(bench, parts):
    """For each of the parts, all there are so far, a proof without joins, with an end within its own."""
    remover = JoinRemover(bench)
    made = []
    for part in parts:
        kids = tuple([made[kid.number] for kid in part.kids])
        if part.word == "join":
            made.append(remover.joined(bench.number_of(part.what), kids[0], kids[1]))
        elif part.word == "thin":
            made.append(kids[0])
        else:
            made.append(bench.rule_like(part, kids) if part.word == "rule" else part)
    return made


def _joinless_proof(reader, part):
    """A proof without joins of the part's end."""
    bench = reader.bench
    found = _joinless_parts(bench, list(bench.parts))[part.number]
    short = shortened(bench, found, part.left, part.right, {})
    return bench.proof_with_end(short, part.left, part.right)


def join_out(book, proof):
    """A proof without joins of the end of a join of two proofs without joins."""
    reader = ProofReader(need_book(book))
    part = reader.read(proof)
    if [each.word for each in reader.bench.parts].count("join") != 1 or part.word != "join":
        raise Refused(0)
    return _joinless_proof(reader, part)


def without_joins(book, proof):
    """A proof without joins of the proof's end."""
    reader = ProofReader(need_book(book))
    return _joinless_proof(reader, reader.read(proof))

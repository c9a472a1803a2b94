"""Proofs and worlds of signs for a sheet; going up, no step is ever taken back.

Sheets of signs are bits of pairs.
"""

from saymakers.forms import parts_of, text_of
from saymakers.kinds import rows_of
from saymakers.signbits import PairBits
from saymakers.signforms import SignTables
from saymakers.signs import awake_signed, signed_table

# Small sheets come to the smallest proof of all; beyond so many sheets the first step is taken.
_MOST_KEPT = 5000


def rows_with_joins(signed):
    """(maker, row, table) for each row that is not open and whose table is the lot of no rule awake in it."""
    found = []
    for name, places in signed.makers:
        for row, table in zip(rows_of(places, signed.count), signed_table(signed, name)):
            lots = [signed.rules[number][1] for number in awake_signed(signed, name, row)]
            if len(table) < signed.count and table not in lots:
                found.append((name, row, table))
    return found


def makers_with_joins(signed):
    """The names of the makers of such rows."""
    return [name for name, row, table in rows_with_joins(signed)]


def some_sign_world(signed, sheet):
    """Some world of the sheet's sayings and their parts with none of its pairs, or None."""
    tables = SignTables(signed)
    barred = [(sign, text_of(saying)) for sign, saying in sheet]
    worlds = [()]
    for saying in parts_of([saying for sign, saying in sheet]):
        longer = []
        for world in worlds:
            signs = {text_of(part): sign for part, sign in world}
            for sign in tables.signs_let(saying, signs):
                if (sign, text_of(saying)) not in barred:
                    longer.append(world + ((saying, sign),))
        worlds = longer
    return worlds[0] if worlds else None


class SignPart:
    """A proof of signs, the bits of its end and how many parts it has."""

    def __init__(self, proof, end, size):
        self.proof = proof
        self.end = end
        self.size = size


class SignRule:
    """A rule on a saying: its number, what stands in its places, the bits of its lot and of its premises."""

    def __init__(self, pairs, rules, number, saying):
        _, signs, premises = rules[number]
        self.number = number
        self.sayings = saying[1:]
        self.lot = pairs.pair_bits([(sign, saying) for sign in signs])
        self.premises = pairs.filled_premises(premises, self.sayings)


class SignProver:
    """Proves sheets of signs over the parts of a sheet, with joins on sayings of these makers alone."""

    def __init__(self, signed, sheet, names):
        self._pairing = PairBits(signed.count)
        self._sheet = self._pairing.pair_bits(sheet)
        sayings = parts_of([saying for sign, saying in sheet])
        made = [saying for saying in sayings if not isinstance(saying, str)]
        self._starts = [(self._pairing.all_signs(saying), saying) for saying in sayings]
        self._split = [saying for saying in made if saying[0] in names]
        self._rules = [SignRule(self._pairing, signed.rules, number, saying) for saying in made
                       for number, rule in enumerate(signed.rules) if rule[0] == saying[0]]
        self._kept = {}

    def sheet_proof(self):
        """A proof of the sheet, or None."""
        part = self._proved(self._sheet)
        if part is None or part.end == self._sheet:
            return None if part is None else part.proof
        return ("thin", self._pairing.signs_of(self._sheet), part.proof)

    def _proved(self, sheet):
        """The smallest part found whose end lies within the sheet, or None."""
        for every, saying in self._starts:
            if not every & ~sheet:
                return SignPart(("start", saying), every, 1)
        if sheet not in self._kept:
            self._kept[sheet] = self._worked(sheet)
        return self._kept[sheet]

    def _worked(self, sheet):
        """The smallest of what the steps come to; if one comes to nothing, so do all."""
        best = None
        for rule, saying in self._steps(sheet):
            part = self._by_joins(saying, sheet) if rule is None else self._by_rule(rule, sheet)
            if part is None:
                return None
            if best is None or part.size < best.size:
                best = part
            if len(self._kept) > _MOST_KEPT:
                return best
        return best

    def _steps(self, sheet):
        """(rule, None) for rules that fit, the best ones first, then (None, saying) for joins."""
        fitting = []
        for at, rule in enumerate(self._rules):
            if not rule.lot & ~sheet and all([premise & ~sheet for premise in rule.premises]):
                unproved = [premise for premise in rule.premises if not self._is_start(sheet | premise)]
                fitting.append((len(unproved), at))
        steps = [(self._rules[at], None) for many, at in sorted(fitting)]
        return steps + [(None, saying) for saying in self._split if len(self._lacking(sheet, saying)) > 1]

    def _is_start(self, sheet):
        """Whether some saying has all its signs in the sheet."""
        return any([not every & ~sheet for every, saying in self._starts])

    def _by_rule(self, rule, sheet):
        """What the rule comes to, or None."""
        proofs = []
        end = rule.lot
        size = 1
        for premise in rule.premises:
            part = self._proved(sheet | premise)
            if part is None or not part.end & ~sheet:
                return part
            proofs.append(part.proof)
            end = end | (part.end & ~premise)
            size += part.size
        return SignPart(("rule", rule.number, rule.sayings, tuple(proofs)), end, size)

    def _lacking(self, sheet, saying):
        """The bits of the signs of the saying that the sheet lacks."""
        bits = [self._pairing.pair_bits([(sign, saying)]) for sign in range(self._pairing.count)]
        return [bit for bit in bits if not bit & sheet]

    def _by_joins(self, saying, sheet):
        """Joins on the saying of proofs each of which lacks another sign of it, or None."""
        whole = None
        for bit in self._lacking(sheet, saying):
            if whole is not None and not whole.end & bit:
                continue
            part = self._proved(sheet | (self._pairing.all_signs(saying) & ~bit))
            if part is None or not part.end & ~sheet:
                return part
            whole = part if whole is None else self._joined(saying, whole, part)
        return whole

    def _joined(self, saying, one, other):
        """A join of two proofs on the saying."""
        end = self._pairing.joined_end(saying, one.end, other.end)
        return SignPart(("join", saying, one.proof, other.proof), end, one.size + other.size + 1)

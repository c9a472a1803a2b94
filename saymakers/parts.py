"""Parts of proofs, each unlike one made once, with its end reckoned.

Sayings get numbers as they come, and the sides of an end are integers whose bits stand for them.
"""

from saymakers.kinds import SIDES
from saymakers.numbered import Numbered


class Part:
    """A proof; `what` is its saying, sheet, fact's number, or (rule's number, sayings)."""

    def __init__(self, number, word, what, kids):
        self.number = number
        self.word = word
        self.what = what
        self.kids = kids
        self.left = 0
        self.right = 0
        self.premises = ()
        self.own = (0, 0)
        self.height = max([0] + [kid.height for kid in kids]) + (1 if word in ("rule", "join") else 0)
        self.deep = max([0] + [kid.deep for kid in kids]) + 1


class Bench(Numbered):
    """Makes parts of proofs for a book; parts are numbered behind those within them."""

    def __init__(self, book):
        Numbered.__init__(self)
        self.book = book
        self.parts = []
        self._kept = {}
        self._fillings = {}

    def _put(self, key, what, kids):
        """The part of this key, and whether it is new."""
        if key in self._kept:
            return self._kept[key], False
        part = Part(len(self.parts), key[0], what, kids)
        self._kept[key] = part
        self.parts.append(part)
        return part, True

    def start_part(self, saying):
        """A start of the saying."""
        number = self.number_of(saying)
        part, new = self._put(("start", number), saying, ())
        if new:
            part.left = part.right = 1 << number
        return part

    def told_part(self, fact, sheet):
        """The fact of this number."""
        part, new = self._put(("told", fact), fact, ())
        if new:
            part.left = self.bits_of(sheet[0])
            part.right = self.bits_of(sheet[1])
        return part

    def thin_part(self, sheet, kid):
        """The kid with the sheet beside its end."""
        left = self.bits_of(sheet[0])
        right = self.bits_of(sheet[1])
        part, new = self._put(("thin", left, right, kid.number), sheet, (kid,))
        if new:
            part.left = kid.left | left
            part.right = kid.right | right
        return part

    def join_part(self, saying, one, other):
        """A join on the saying, on the right of the one, on the left of the other."""
        number = self.number_of(saying)
        part, new = self._put(("join", number, one.number, other.number), saying, (one, other))
        if new:
            part.left = one.left | (other.left & ~(1 << number))
            part.right = (one.right & ~(1 << number)) | other.right
        return part

    def rule_part(self, rule, sayings, kids):
        """The rule of this number with sayings for its places and kids for its premises."""
        numbers = tuple([self.number_of(saying) for saying in sayings])
        part, new = self._put(("rule", rule, numbers, tuple([kid.number for kid in kids])), (rule, sayings), kids)
        if new:
            part.own, part.premises = self._filling(rule, sayings, numbers)
            part.left, part.right = part.own
            for kid, (left, right) in zip(kids, part.premises):
                part.left = part.left | (kid.left & ~left)
                part.right = part.right | (kid.right & ~right)
        return part

    def _filling(self, rule, sayings, numbers):
        """The bits of what the rule puts in, and of its filled premises."""
        if (rule, numbers) not in self._fillings:
            name, side, premises = self.book.rules[rule]
            bit = 1 << self.number_of((name,) + sayings)
            own = (bit, 0) if side == SIDES[0] else (0, bit)
            filled = [tuple([self._place_bits(numbers, places) for places in premise]) for premise in premises]
            self._fillings[(rule, numbers)] = (own, tuple(filled))
        return self._fillings[(rule, numbers)]

    def _place_bits(self, numbers, places):
        """The bits of the sayings that stand in the places."""
        bits = 0
        for place in places:
            bits = bits | (1 << numbers[place - 1])
        return bits

    def rule_like(self, part, kids):
        """The rule of the part with other kids."""
        return self.rule_part(part.what[0], part.what[1], kids)

    def proof_of(self, part):
        """The part as a nested tuple; what stands in it twice is made once."""
        made = {}
        rest = [part]
        while rest:
            each = rest.pop()
            waiting = [kid for kid in each.kids if kid.number not in made]
            if waiting:
                rest.append(each)
                rest.extend(waiting)
            else:
                made[each.number] = _tuple_of(each, tuple([made[kid.number] for kid in each.kids]))
        return made[part.number]

    def proof_with_end(self, part, left, right):
        """The part as a proof of just this end, within which its own one lies."""
        if (part.left, part.right) == (left, right):
            return self.proof_of(part)
        return ("thin", self.sheet_of(left, right), self.proof_of(part))


def _tuple_of(part, proofs):
    """The part's tuple around these proofs."""
    if part.word == "rule":
        return ("rule", part.what[0], part.what[1], proofs)
    return (part.word, part.what) + proofs

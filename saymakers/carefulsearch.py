"""Careful proofs and heaps over a small closed lot.

A state is (bits of the left sayings, number of the right one), with -1 for none on the right.
"""

from saymakers.closed import breaks, filled_rules

NOTHING = -1


class HeapRule:
    """A filled rule, and the worlds, as bits of their numbers, that break a premise that must hold above, too."""

    def __init__(self, filled, many):
        self.left = filled.left
        self.right = filled.right
        firm = [premise for premise in filled.premises if filled.right or premise[1]]
        self.soft = [premise for premise in filled.premises if not filled.right and not premise[1]]
        self.broken = sum([1 << world for world in range(many) if any([breaks(world, each) for each in firm])])

    def bars(self, world, above):
        """Whether it is sure in the world with these ones above, and the world does not say so."""
        if not world & self.left and not self.right & ~world or above & self.broken:
            return False
        return not any([breaks(world, premise) for premise in self.soft])


def greatest_heap(lot, facts):
    """The worlds, as bits of sayings, of the greatest heap that keeps the facts, what has more standing above.

    All lots of sayings are tried as worlds. Those that a rule bars go out, until none is left to go.
    """
    many = lot.every + 1
    above = [sum([1 << other for other in range(many) if not world & ~other]) for world in range(many)]
    rules = [HeapRule(filled, many) for filled in filled_rules(lot)]
    kept = []
    left = [world for world in range(many) if not any([breaks(world, fact) for fact in facts])]
    while len(left) != len(kept):
        kept = left
        alive = sum([1 << world for world in kept])
        left = [world for world in kept if not any([rule.bars(world, above[world] & alive) for rule in rules])]
    return kept


def heap_from(lot, kept, least):
    """The worlds of the heap from the least one on as pairs (truths, above)."""
    worlds = [world for world in kept if not least & ~world]
    heap = []
    for world in worlds:
        truths = tuple([world >> number & 1 for number in range(len(lot.sayings))])
        heap.append((truths, tuple([at for at, other in enumerate(worlds) if not world & ~other])))
    return tuple(heap)


class Step:
    """The last step of a careful proof: its word, what it is about, the states of the proofs within, their size."""

    def __init__(self, word, what, states, size):
        self.word = word
        self.what = what
        self.states = states
        self.size = size


class CarefulSearch:
    """Finds smallest careful proofs from facts, with joins on sayings of facts alone."""

    def __init__(self, lot, facts):
        self.lot = lot
        self._facts = [(left, right.bit_length() - 1) for left, right in facts]
        joined = 0
        for left, right in facts:
            joined = joined | left | right
        self._join_numbers = [number for number in range(len(lot.sayings)) if joined >> number & 1]
        self._rules = filled_rules(lot)
        self._best = {}

    def smallest_proof(self, left, right):
        """A careful proof whose end lies within the sheet, known to have one."""
        # What has more sayings has a greater number, so it is worked out ahead.
        for more in reversed(range(left, self.lot.every + 1)):
            if not left & ~more:
                self._work_out(more)
        return self._built((left, right.bit_length() - 1))

    def _work_out(self, left):
        """The best steps for all states with these left sayings, until nothing gets better."""
        again = True
        while again:
            again = False
            for number in range(NOTHING, len(self.lot.sayings)):
                state = (left, number)
                for step in self._steps(left, number):
                    if state not in self._best or step.size < self._best[state].size:
                        self._best[state] = step
                        again = True

    def _steps(self, left, number):
        """All steps to the state from what is found so far."""
        found = []
        if number != NOTHING and left >> number & 1:
            found.append(Step("start", number, (), 1))
        for at, (fact_left, fact_right) in enumerate(self._facts):
            if not fact_left & ~left and fact_right in (NOTHING, number):
                found.append(Step("told", at, (), 1))
        for filled in self._rules:
            if filled.left & left or (number != NOTHING and filled.right >> number & 1):
                self._put_step(found, "rule", filled, _rule_states(filled, left, number))
        for joined in self._join_numbers:
            self._put_step(found, "join", joined, ((left, joined), (left | 1 << joined, number)))
        return found

    def _put_step(self, found, word, what, states):
        """Puts the step to those found, if all that it needs is there."""
        if all([state in self._best for state in states]):
            found.append(Step(word, what, states, 1 + sum([self._best[state].size for state in states])))

    def _built(self, state):
        """The proof of the state as a nested tuple."""
        step = self._best[state]
        proofs = tuple([self._built(each) for each in step.states])
        if step.word == "told":
            return ("told", step.what)
        if step.word == "rule":
            return ("rule", step.what.number, step.what.sayings, proofs)
        return (step.word, self.lot.sayings[step.what]) + proofs


def _rule_states(filled, left, number):
    """The states that a filled rule needs; soft premises of a left rule may end in what the rule ends in."""
    states = []
    for more, right in filled.premises:
        soft = bool(filled.left) and not right
        states.append((left | more, number if soft else right.bit_length() - 1))
    return tuple(states)

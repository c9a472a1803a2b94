"""Proofs for the tests, made at random but so that rules and joins have much to do."""

from tests.tools import all_parts, end_of


def names_of(saying):
    """How many names stand in the saying."""
    return 1 if isinstance(saying, str) else 1 + sum(map(names_of, saying[1:]))


def random_saying(rng, book, deep):
    """Some saying of the book's makers."""
    if not deep or not book.makers or rng.random() < 0.4:
        return rng.choice("pqr")
    name, places = rng.choice(book.makers)
    return (name,) + tuple(random_saying(rng, book, deep - 1) for _ in range(places))


class Pool:
    """Proofs of a book that are put together more and more."""

    def __init__(self, rng, book, most=30, starts=True):
        self.rng, self.book, self.most, self.starts = rng, book, most, starts
        self.proofs, self.ends = [], []
        for saying in ["p", "q", "r", random_saying(rng, book, 2), random_saying(rng, book, 2)]:
            self.put(("start", saying))

    def put(self, proof):
        """Takes the proof, if it is small and its end tells something."""
        left, right = end_of(self.book, proof)
        if len(all_parts(proof)) > self.most or len(left) + len(right) > 16 or proof in self.proofs:
            return
        if proof[0] != "start" and not self.starts and left & right:
            return
        if any(names_of(saying) > 60 for saying in left | right):
            return
        self.proofs.append(proof)
        self.ends.append((left, right))

    def put_rule(self):
        """A rule on sayings that stand in ends, above it what has the most of its premises."""
        rule = self.rng.randrange(len(self.book.rules))
        name, side, premises = self.book.rules[rule]
        there = [saying for end in self.ends for part in end for saying in sorted(part, key=str)]
        sayings = tuple(self.rng.choice(there) for _ in range(self.book.maker_places(name)))
        proofs = []
        for left, right in premises:
            counts = [sum(sayings[k - 1] in end[0] for k in left) + sum(sayings[k - 1] in end[1] for k in right)
                      for end in self.ends]
            best = [at for at, count in enumerate(counts) if count == max(counts)]
            proofs.append(self.proofs[self.rng.choice(best)])
        self.put(("rule", rule, sayings, tuple(proofs)))

    def put_join(self):
        """A join on a saying that stands on both sides of it."""
        found = [(saying, one, other) for one, end in enumerate(self.ends) for other, more in enumerate(self.ends)
                 for saying in sorted(end[1] & more[0], key=str)
                 if "start" not in (self.proofs[one][0], self.proofs[other][0])]
        made = [each for each in found if not isinstance(each[0], str)]
        if found:
            saying, one, other = self.rng.choice(made if made and self.rng.random() < 0.8 else found)
            self.put(("join", saying, self.proofs[one], self.proofs[other]))

    def put_thin(self):
        """A thinning by a small sheet."""
        sheet = tuple(tuple(each) for each in ([], [random_saying(self.rng, self.book, 1)])[::self.rng.choice((1, -1))])
        self.put(("thin", sheet, self.rng.choice(self.proofs)))

    def grow(self, times, joins=True):
        """Puts more proofs together."""
        for _ in range(times):
            way = self.rng.random()
            if self.book.rules and way < 0.6:
                self.put_rule()
            elif joins and way < 0.9:
                self.put_join()
            elif way >= 0.9:
                self.put_thin()
        return self


def random_proof(rng, book, joins=True, starts=True, most=30):
    """Some proof of the book; without starts, none but a start ends with a saying on both sides."""
    pool = Pool(rng, book, most, starts).grow(40, joins)
    made = [proof for proof in pool.proofs if proof[0] != "start"]
    joined = [proof for proof in made if proof[0] == "join"]
    return rng.choice(joined or made or pool.proofs)

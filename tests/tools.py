"""What the tests share: values, books, and reckonings made in other ways than the program's."""

import itertools
import random

from saymakers.books import Book, read_book

AND = read_book("maker and 2\nright and: | 1; | 2\nleft and: 1 2 |")
NO = read_book("maker no 1\nright no: 1 |\nleft no: | 1")
TONK = read_book("maker tonk 2\nright tonk: | 1\nleft tonk: 2 |")
MAY = read_book("maker may 1\nright may: | 1")
XOR = read_book("maker xor 2\nright xor: | 1 2; 1 2 |\nleft xor: 1 | 2; 2 | 1")
LOGIC = read_book("\n".join([
    "maker and 2", "right and: | 1; | 2", "left and: 1 2 |",
    "maker or 2", "right or: | 1 2", "left or: 1 |; 2 |",
    "maker if 2", "right if: 1 | 2", "left if: | 1; 2 |",
    "maker no 1", "right no: 1 |", "left no: | 1",
    "maker top 0", "right top:",
    "maker most 3", "right most: | 1 2; | 1 3; | 2 3", "left most: 1 2 |; 1 3 |; 2 3 |",
    "maker so 1",
]))
EMPTY = Book((), ())

# Values of no form at all, wherever something else than a number or a name is asked.
JUNK = (
    0, -1, 7, True, False, None, "", "p|", "Odd", "start", (), [], ((),), [[]], (1, 2), [1, 2, 3], ("start",),
    (None, None), ((), (), ()), ("calm",), [("calm",)], EMPTY, (EMPTY,), [EMPTY, TONK], ((((((((((1,),),),),),),),),),),
    ("odd", 1, 2), ("told", 0), (("p", 1),), "\n", "pp" * 9,
)


def listed(value):
    """The value with lists in place of all tuples."""
    if isinstance(value, (list, tuple)):
        return [listed(each) for each in value]
    return value


def tupled(value):
    """The value with tuples in place of all lists."""
    if isinstance(value, (list, tuple)):
        return tuple(tupled(each) for each in value)
    return value


def is_all_tuples(value):
    """Whether no list stands within the value."""
    if isinstance(value, tuple):
        return all(is_all_tuples(each) for each in value)
    return not isinstance(value, list)


def changed(value):
    """The value changed in one thing, in many ways."""
    yield from (None, True, -1, "odd", [value], (value,))
    if isinstance(value, int):
        yield from (value + 1, value - 1, bool(value), str(value))
    if isinstance(value, tuple):
        yield list(value)
        yield value + (0,)
        yield value[::-1]
        for at, each in enumerate(value):
            yield value[:at] + value[at + 1:]
            yield value[:at] + (each,) + value[at:]
            for other in changed(each):
                yield value[:at] + (other,) + value[at + 1:]


def is_same(one, other):
    """Whether two values are equal, no bool being equal to an integer."""
    if isinstance(one, (list, tuple)) and type(one) is type(other):
        return len(one) == len(other) and all(map(is_same, one, other))
    return type(one) is type(other) and one == other


def lots(things, most=None):
    """All lots of the things, as tuples, with at most so many."""
    for many in range(len(things) + 1 if most is None else min(most, len(things)) + 1):
        yield from itertools.combinations(things, many)


def premises_of(places):
    """All premises of these places."""
    sides = list(lots(range(1, places + 1)))
    return [(left, right) for left in sides for right in sides]


def wakes(premises, row):
    """Whether all premises hold in the row."""
    return all(any(not row[k - 1] for k in left) or any(row[k - 1] for k in right) for left, right in premises)


def rows(places, signs=2):
    """All rows, ascending."""
    return list(itertools.product(range(signs), repeat=places))


def tells(book, name, row):
    """The set of truths that the maker's awake rules tell."""
    return {int(side == "right") for own, side, premises in book.rules if own == name and wakes(premises, row)}


def calm_by_tables(book):
    """Whether no row of a maker is told both truths."""
    return all(len(tells(book, name, row)) < 2 for name, places in book.makers for row in rows(places))


def random_book(rng, makers=None, rules=5, premises=3, calm=None, dense=0.4):
    """Some small book; calm tells whether it is to be calm, if that matters."""
    while True:
        own = makers or [(name, rng.choice((0, 1, 1, 2, 2, 3))) for name in ("m", "n")[:rng.randint(1, 2)]]
        told = []
        for _ in range(rng.randint(0, rules)):
            name, places = rng.choice(own)
            lot = [tuple([k for k in range(1, places + 1) if rng.random() < dense] for _ in range(2))
                   for _ in range(rng.randint(0, premises))]
            told.append((name, rng.choice(("left", "right")), lot))
        book = Book(own, told)
        if calm is None or calm_by_tables(book) == calm:
            return book


def random_books(many, seed, **more):
    """So many small books."""
    rng = random.Random(seed)
    return [random_book(rng, **more) for _ in range(many)]


def parts(saying):
    """The set of the saying's parts."""
    found = {saying}
    if not isinstance(saying, str):
        for part in saying[1:]:
            found |= parts(part)
    return found


def in_order(sayings):
    """The sayings by many names, then text, each once."""
    def text(saying):
        return saying if isinstance(saying, str) else f"{saying[0]}({', '.join(map(text, saying[1:]))})"

    def names(saying):
        return 1 if isinstance(saying, str) else 1 + sum(map(names, saying[1:]))
    return tuple(sorted(set(sayings), key=lambda saying: (names(saying), text(saying))))


def sheet_of(left, right):
    """The sheet of these sayings."""
    return in_order(left), in_order(right)


def end_of(book, proof, facts=()):
    """The proof's end as a pair of sets."""
    word = proof[0]
    if word == "start":
        return {proof[1]}, {proof[1]}
    if word == "told":
        return set(facts[proof[1]][0]), set(facts[proof[1]][1])
    if word == "thin":
        left, right = end_of(book, proof[2], facts)
        return left | set(proof[1][0]), right | set(proof[1][1])
    if word == "join":
        (left, right), (left_too, right_too) = end_of(book, proof[2], facts), end_of(book, proof[3], facts)
        return left | (left_too - {proof[1]}), (right - {proof[1]}) | right_too
    name, side, premises = book.rules[proof[1]]
    whole = (name,) + proof[2]
    left, right = ({whole}, set()) if side == "left" else (set(), {whole})
    for premise, kid in zip(premises, proof[3], strict=True):
        kid_left, kid_right = end_of(book, kid, facts)
        left |= kid_left - {proof[2][k - 1] for k in premise[0]}
        right |= kid_right - {proof[2][k - 1] for k in premise[1]}
    return left, right


def end_sheet(book, proof, facts=()):
    """The proof's end as a sheet."""
    return sheet_of(*end_of(book, proof, facts))


def kids_of(proof):
    """The proofs within a proof."""
    return proof[3] if proof[0] == "rule" else proof[2:]


def all_parts(proof):
    """All parts in the order in which they are written."""
    return [proof] + [part for kid in kids_of(proof) for part in all_parts(kid)]


def words_of(proof):
    """The words of all parts."""
    return [part[0] for part in all_parts(proof)]


def height_of(proof):
    """How many rules and joins stand on the longest way."""
    return max([0] + [height_of(kid) for kid in kids_of(proof)]) + (proof[0] in ("rule", "join"))


def provable(book, lot, joins):
    """All sheets over the lot, as pairs of frozensets, with a proof within it, found by going round and round."""
    sides = [frozenset(side) for side in lots(lot)]
    sheets = [(left, right) for left in sides for right in sides]
    done = {sheet for sheet in sheets if sheet[0] & sheet[1]}

    def by_rule(left, right):
        for saying in left | right:
            if isinstance(saying, str):
                continue
            for name, side, premises in book.rules:
                if name != saying[0] or saying not in (left if side == "left" else right):
                    continue
                if all((left | {saying[k] for k in more}, right | {saying[k] for k in too}) in done
                       for more, too in premises):
                    return True
        return False

    def by_join(left, right):
        return any((left, right | {saying}) in done and (left | {saying}, right) in done for saying in lot)

    while True:
        more = {sheet for sheet in sheets if sheet not in done and (by_rule(*sheet) or joins and by_join(*sheet))}
        if not more:
            return done
        done |= more


def all_worlds(book, lot):
    """All worlds of a closed lot, as dicts."""
    found = []
    for truths in itertools.product((0, 1), repeat=len(lot)):
        world = dict(zip(lot, truths))
        if all(isinstance(saying, str) or not tells(book, saying[0], [world[part] for part in saying[1:]]) - {truth}
               for saying, truth in world.items()):
            found.append(world)
    return found


def is_kept(world, left, right):
    """Whether the world, a dict, keeps the sheet."""
    return any(not world[saying] for saying in left) or any(world[saying] for saying in right)


class Wrong:
    """Lets a test look at a raised error: its class and its attributes."""

    def wrong(self, error, attributes, call, *args, **more):
        with self.assertRaises(error) as caught:
            call(*args, **more)
        self.assertIs(type(caught.exception), error)
        for name, value in attributes.items():
            self.assertTrue(is_same(getattr(caught.exception, name), value),
                            (name, getattr(caught.exception, name), value))

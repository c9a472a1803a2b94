"""[48] and [50], what module heaps has of them: books with fault, heaps of worlds, sheets that they keep."""

import itertools
import random
import unittest

from saymakers.books import Book, read_book
from saymakers.errors import InvalidBook, InvalidLot, InvalidSheet, InvalidWorld, NotCalm, Refused
from saymakers.heaps import careful_fault, heap_holds, sheet_kept
from tests.some_proofs import random_saying
from tests.test_sayings import NO_SAYINGS
from tests.test_worlds import closed
from tests.tools import (
    AND, EMPTY, JUNK, NO, TONK, Wrong, all_worlds, calm_by_tables, changed, is_all_tuples, listed, lots, random_books,
    rows)

OR = read_book("maker or 2\nright or: | 1\nright or: | 2\nleft or: 1 |; 2 |")
IF = read_book("maker if 2\nright if: 1 | 2\nleft if: | 1; 2 |")
FAULTY = read_book("maker or 2\nright or: | 1 2\nleft or: 1 |; 2 |")
BADLY = read_book("maker or 2\nright or: | 1 2\nleft or:")
LATE = Book([("a", 1), ("m", 3)], [("a", "left", [((1,), ())]), ("m", "left", [((), (1,)), ((1,), (2, 3)), ((2,), (1, 3))])])
ONE = (((0,), (0,)),)


def careful_book(rng, makers=None, rules=5, premises=3):
    """Some small calm book without fault."""
    while True:
        own = makers or [(name, rng.choice((0, 1, 1, 2, 2, 3))) for name in ("m", "n")[:rng.randint(1, 2)]]
        told = []
        for _ in range(rng.randint(1, rules)):
            name, places = rng.choice(own)
            lot = [(tuple(k for k in range(1, places + 1) if rng.random() < 0.4),
                    tuple(rng.sample(range(1, places + 1), min(places, rng.randint(0, 1)))))
                   for _ in range(rng.randint(0, premises))]
            told.append((name, rng.choice(("left", "right")), lot))
        book = Book(own, told)
        if calm_by_tables(book):
            return book


def holds(premise, whole, world):
    """Whether the premise holds in the world, a dict, with the parts of this saying in the places."""
    return any(not world[whole[k]] for k in premise[0]) or any(world[whole[k]] for k in premise[1])


def right_heap(book, lot, value):
    """Whether the value is a heap on the lot, reckoned here."""
    if type(value) is not tuple or not value or not is_all_tuples(value):
        return False
    for pair in value:
        if type(pair) is not tuple or len(pair) != 2 or type(pair[0]) is not tuple or type(pair[1]) is not tuple:
            return False
        if len(pair[0]) != len(lot) or not all(type(each) is int and each in (0, 1) for each in pair[0]):
            return False
        if not all(type(each) is int and 0 <= each < len(value) for each in pair[1]):
            return False
        if list(pair[1]) != sorted(set(pair[1])):
            return False
    worlds = [dict(zip(lot, truths)) for truths, above in value]
    for at, (truths, above) in enumerate(value):
        if at not in above or not all(set(value[other][1]) <= set(above) for other in above):
            return False
        if any(worlds[at][saying] and not worlds[other][saying] for other in above for saying in lot):
            return False
        for whole in lot:
            for name, side, premises in book.rules:
                if isinstance(whole, str) or name != whole[0]:
                    continue
                sure = all(holds(premise, whole, worlds[at]) if side == "left" and not premise[1]
                           else all(holds(premise, whole, worlds[other]) for other in above) for premise in premises)
                if sure and worlds[at][whole] != (side == "right"):
                    return False
    return True


def orders(many):
    """All ways to set worlds above others, itself and what is above one above too."""
    pairs = list(itertools.permutations(range(many), 2))
    for chosen in lots(pairs):
        above = [sorted({at} | {other for one, other in chosen if one == at}) for at in range(many)]
        if all(set(above[other]) <= set(above[at]) for at in range(many) for other in above[at]):
            yield [tuple(each) for each in above]


def some_heaps(seed, many, most=4):
    """(book, lot, heap) with heaps of some worlds, right ones and wrong ones."""
    rng = random.Random(seed)
    ways = {worlds: list(orders(worlds)) for worlds in (1, 2, 3)}
    for _ in range(many):
        book = careful_book(rng)
        lot = closed([random_saying(rng, book, 2), random_saying(rng, book, 1)])
        if len(lot) > most:
            continue
        for _ in range(12):
            above = rng.choice(ways[rng.choice((1, 2, 2, 3))])
            truths = [[rng.randint(0, 1) for _ in lot] for _ in above]
            for _ in above:
                for at, own in enumerate(above):
                    for other in own:
                        truths[other] = [max(pair) for pair in zip(truths[at], truths[other])]
            yield book, lot, tuple((tuple(own), more) for own, more in zip(truths, above))


class FaultTest(Wrong, unittest.TestCase):
    def test_careful_fault(self):
        for book, fault in ((OR, None), (IF, None), (AND, None), (TONK, None), (EMPTY, None), (NO, None),
                            (FAULTY, (1, 0)), (BADLY, (1, 0)), (LATE, (1, 1)),
                            (read_book("maker m 2\nleft m: | 1; | 1 2\nright m: | 1 2"), (0, 1))):
            self.assertEqual(careful_fault(book), fault)
        for book in random_books(200, 221):
            fault = next(((at, number) for at, rule in enumerate(book.rules) for number, premise in enumerate(rule[2])
                          if len(premise[1]) > 1), None)
            self.assertEqual(careful_fault(book), fault)

    def test_wrong_books(self):
        for value in JUNK:
            if not isinstance(value, Book):
                self.wrong(InvalidBook, {"at": -1}, careful_fault, value)
                self.wrong(InvalidBook, {"at": -1}, heap_holds, value, None, None)
                self.wrong(InvalidBook, {"at": -1}, sheet_kept, value, None, None, None)
        for call, args in ((heap_holds, (None, None)), (sheet_kept, (None, None, None))):
            self.wrong(NotCalm, {"right": 1, "left": 0, "row": (1, 0)}, call, TONK, *args)
            self.wrong(NotCalm, {"right": 1, "left": 0, "row": (0, 1)}, call, BADLY, *args)
            self.wrong(Refused, {"at": (1, 0)}, call, FAULTY, *args)
            self.wrong(Refused, {"at": (1, 1)}, call, LATE, *args)


class HeapsTest(Wrong, unittest.TestCase):
    def test_heaps(self):
        told = {True: 0, False: 0}
        for book, lot, heap in some_heaps(222, 400):
            right = right_heap(book, lot, heap)
            self.assertIs(heap_holds(book, lot, heap), right, (book.rules, lot, heap))
            self.assertIs(heap_holds(book, listed(lot), heap), right)
            self.assertIs(heap_holds(book, lot, listed(heap)), False)
            told[right] += len(heap) > 1
        self.assertGreater(min(told.values()), 300)

    def test_sure_rules(self):
        lot = ("p", "q", ("or", "p", "q"))
        above = (((0, 0, 0), (0, 1, 2)), ((1, 0, 1), (1,)), ((0, 1, 1), (2,)))
        self.assertIs(heap_holds(OR, lot, above), True)
        # A left rule's soft premises hold in this world itself: the saying is 0 where both places are.
        self.assertIs(heap_holds(OR, lot, (((0, 0, 1), (0, 1, 2)),) + above[1:]), False)
        lot = ("p", "q", ("if", "p", "q"))
        self.assertIs(heap_holds(IF, lot, (((0, 0, 0), (0, 1)), ((1, 0, 0), (1,)))), True)
        self.assertIs(heap_holds(IF, lot, (((0, 0, 1), (0, 1)), ((1, 0, 0), (1,)))), False)
        self.assertIs(heap_holds(IF, lot, (((0, 0, 0), (0,)),)), False)
        # A right place must have 1 in all worlds above; the soft premise holds here though not above.
        self.assertIs(heap_holds(IF, lot, (((1, 0, 0), (0, 1)), ((1, 1, 1), (1,)))), True)
        self.assertIs(heap_holds(IF, lot, (((1, 0, 1), (0, 1)), ((1, 1, 1), (1,)))), False)
        no = ("p", ("no", "p"))
        self.assertIs(heap_holds(NO, no, (((0, 0), (0, 1)), ((1, 0), (1,)))), True)
        self.assertIs(heap_holds(NO, no, (((0, 1), (0, 1)), ((1, 0), (1,)))), False)
        self.assertIs(heap_holds(NO, no, (((0, 1), (0,)),)), True)

    def test_orders(self):
        for heap, right in (
                (ONE, True), ((), False), ((((0,), ()),), False), ((((0,), (0, 0)),), False), ((((0,), (0, 1)),), False),
                ((((0,), (0, 1)), ((1,), (1,))), True), ((((1,), (0, 1)), ((0,), (1,))), False),
                ((((0,), (1, 0)), ((1,), (1,))), False), ((((0,), (0, 1)), ((0,), (0, 1))), True),
                ((((0,), (0, 1)), ((0,), (1, 2)), ((0,), (2,))), False),
                ((((0,), (0, 1, 2)), ((0,), (1, 2)), ((0,), (2,))), True), ((((0, 0), (0,)),), False),
                ((((), (0,)),), False), ((((True,), (0,)),), False), ((((0,), (False,)),), False),
                ((((2,), (0,)),), False), ((((None,), (0,)),), False), ((((0,), (-1,)),), False)):
            self.assertIs(heap_holds(EMPTY, ["p"], heap), right, heap)
        self.assertIs(heap_holds(EMPTY, (), (((), (0,)),)), True)
        self.assertIs(heap_holds(EMPTY, (), (((), (0, 1)), ((), (1,)))), True)

    def test_any_values(self):
        for book, lot, heap in itertools.islice(some_heaps(223, 60, 3), 40):
            for value in list(changed(heap)) + list(JUNK):
                self.assertIs(heap_holds(book, lot, value), right_heap(book, lot, value), (book.rules, lot, value))

    def test_a_heap_of_one_world_is_a_world(self):
        rng = random.Random(224)
        for _ in range(100):
            book = careful_book(rng)
            lot = closed([random_saying(rng, book, 2)])
            if len(lot) > 6:
                continue
            worlds = [tuple(world.values()) for world in all_worlds(book, lot)]
            for truths in rows(len(lot)):
                self.assertIs(heap_holds(book, lot, ((truths, (0,)),)), truths in worlds)

    def test_each_heap_goes_on(self):
        """To one saying more: some truths of it, lasting upwards, make a heap of the greater lot."""
        found = 0
        for book, lot, heap in some_heaps(225, 150, 3):
            if not heap_holds(book, lot, heap):
                continue
            for name, places in book.makers:
                for filling in itertools.product(lot, repeat=places):
                    whole = (name,) + filling
                    if whole in lot or closed(lot + (whole,))[-1] != whole:
                        continue
                    greater = (tuple((truths + (more,), above) for (truths, above), more in zip(heap, column))
                               for column in rows(len(heap)))
                    self.assertTrue(any(heap_holds(book, lot + (whole,), each) for each in greater))
                    found += len(heap) > 1
        self.assertGreater(found, 100)

    def test_wrong_lots(self):
        may = ("no", "p")
        for value, at in ((None, -1), (5, -1), ("p", -1), (EMPTY, -1), (True, -1), (("q", "p"), 1), (("p", "p"), 1),
                          ((may,), 0), (("p", may, "q"), 2), (("p", ("no", may)), 1), (("p", ("or", "p", "p")), 1),
                          (("p", may, ("no", "q"), 5), 2), (("p", ("no", "p", "p")), 1), ((5, "p"), 0)):
            self.wrong(InvalidLot, {"at": at}, heap_holds, NO, value, None)
            self.wrong(InvalidLot, {"at": at}, sheet_kept, NO, value, None, None)
        for value in NO_SAYINGS:
            self.wrong(InvalidLot, {"at": 1}, heap_holds, NO, ["p", value], None)
        self.assertIs(heap_holds(NO, ["p", ["no", "p"]], (((0, 1), (0,)),)), True)


class KeptTest(Wrong, unittest.TestCase):
    def test_sheets(self):
        found = {True: 0, False: 0}
        for book, lot, heap in some_heaps(226, 150, 3):
            if not heap_holds(book, lot, heap):
                continue
            for left in lots(lot):
                for right in lots(lot, 1):
                    kept = not any(all(truths[lot.index(saying)] for saying in left)
                                   and not any(truths[lot.index(saying)] for saying in right) for truths, above in heap)
                    self.assertIs(sheet_kept(book, lot, heap, (left, right)), kept)
                    self.assertIs(sheet_kept(book, listed(lot), heap, listed((left[::-1] * 2, right))), kept)
                    found[kept] += 1
        self.assertGreater(min(found.values()), 200)

    def test_edges(self):
        self.assertIs(sheet_kept(EMPTY, ["p"], ONE, ((), ())), False)
        self.assertIs(sheet_kept(EMPTY, ["p"], ONE, (("p",), ())), True)
        self.assertIs(sheet_kept(EMPTY, ["p"], ONE, ((), ("p",))), False)
        self.assertIs(sheet_kept(EMPTY, ["p"], ONE, (("p",), ("p",))), True)
        self.assertIs(sheet_kept(book=EMPTY, sayings=(), heap=(((), (0,)),), sheet=((), ())), False)

    def test_wrong(self):
        for heap in (listed(ONE), (), ((((0,), [0])),), None, 5, "p", EMPTY, (((0,), (0, 1)),), (((0, 0), (0,)),), [ONE[0]],
                     (((False,), (0,)),), (([0], (0,)),)):
            self.wrong(InvalidWorld, {"at": -1}, sheet_kept, EMPTY, ["p"], heap, None)
        self.wrong(InvalidWorld, {"at": -1}, sheet_kept, NO, ["p", ("no", "p")], (((0, 0), (0,)),), None)
        for sheet in (None, 5, "|", (), ((), ("p", "q")), (("p", "q"), ()), ((), ("q",)), ((), (("no", "p"),)), EMPTY,
                      ((), (), ()), ((), ("P",)), ((("or", "p", "p"),), ())):
            self.wrong(InvalidSheet, {"at": -1}, sheet_kept, NO, ["p"], ONE, sheet)

    def test_a_hundred_and_twenty_eight_worlds(self):
        lot = tuple("abcdefg")
        truths = rows(7)
        heap = tuple((row, tuple(at for at, more in enumerate(truths) if all(map(int.__le__, row, more)))) for row in truths)
        self.assertIs(heap_holds(EMPTY, lot, heap), True)
        self.assertIs(sheet_kept(EMPTY, lot, heap, (lot, ())), False)
        self.wrong(InvalidWorld, {"at": -1}, sheet_kept, EMPTY, lot, heap[1:], (lot, ()))
        both = tuple((row, tuple(range(128))) for row in truths)
        self.assertIs(heap_holds(EMPTY, lot, both), False)
        alike = tuple(((1,) * 7, tuple(range(128))) for _ in truths)
        self.assertIs(heap_holds(EMPTY, lot, alike), True)
        self.assertIs(sheet_kept(EMPTY, lot, alike, (lot[1:], lot[:1])), True)


if __name__ == "__main__":
    unittest.main()

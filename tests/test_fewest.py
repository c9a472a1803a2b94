"""[32] to [34]: boxes of rows, kinds of rules, books of single rules."""

import itertools
import random
import unittest

from saymakers.books import Book, maker_table
from saymakers.errors import InvalidBook, InvalidLot, InvalidRules, InvalidSize, NotCalm
from saymakers.fewest import (
    kind_breach, kind_lots, kind_premises, least_book, premise_count, single_holds, single_lots, single_paper,
    wider_rules)
from saymakers.tables import nth_table, told_book
from tests.test_middles import HARD
from tests.test_tables import NO_PLACES, table_of
from tests.tools import (
    AND, EMPTY, JUNK, LOGIC, Wrong, changed, is_all_tuples, listed, lots, premises_of, random_books, rows, wakes)

KINDS = ("single", "right", "left", "pair", "any")
NO_LOTS = ((None, -1), (5, -1), ("01", -1), (EMPTY, -1), (True, -1), ([(0,)], 0), ([(0, 0), (0, 2)], 1), ([(0, 0), (0, True)], 1),
           ([(0, 0, 0)], 0), ([5], 0), ([(0, 1), None, 5], 1), ([(0, 0), ()], 1), ([("0", 0)], 0), ([EMPTY], 0))


def in_box(box, row):
    """Whether the row lies in the box."""
    return all(sign in (truth, 2) for sign, truth in zip(box, row))


def boxes_in(places, lot):
    """All boxes that have no other rows than these."""
    return [box for box in rows(places, 3) if all(row in lot for row in rows(places) if in_box(box, row))]


def together(places, boxes):
    """The rows of the boxes."""
    return tuple(row for row in rows(places) if any(in_box(box, row) for box in boxes))


def apart(places, lot, some):
    """Whether no two of some rows lie in one box of the lot alone."""
    return not any(in_box(box, one) and in_box(box, other)
                   for one, other in itertools.combinations(some, 2) for box in boxes_in(places, lot))


def fewest_boxes(places, lot):
    """How few boxes have just these rows, by lots of boxes one after another."""
    boxes = boxes_in(places, lot)
    return next(many for many in range(9) if any(
        together(places, some) == lot for some in itertools.combinations(boxes, many)))


def all_lots(most=3):
    """(places, lot) for all lots of rows."""
    return [(places, lot) for places in range(most + 1) for lot in lots(rows(places))]


def is_of_kind(premises, kind):
    """Whether a rule with these premises is of the kind."""
    return all({"single": len(left) + len(right) < 2, "right": len(right) < 2, "left": len(left) < 2,
                "pair": len(left) + len(right) < 3, "any": True}[kind] for left, right in premises)


def lots_of_kind(places, kind):
    """All lots of rows that rules of the kind wake in, by all of its premises that hold there."""
    own = [premise for premise in premises_of(places) if is_of_kind([premise], kind)]
    found = set()
    for lot in lots(rows(places)):
        kept = [premise for premise in own if all(wakes([premise], row) for row in lot)]
        if tuple(row for row in rows(places) if wakes(kept, row)) == lot:
            found.add(lot)
    return found


class BoxesTest(Wrong, unittest.TestCase):
    def right(self, places, lot, value):
        """Whether the value is a pair of boxes and rows, reckoned here."""
        if type(value) is not tuple or len(value) != 2 or not is_all_tuples(value):
            return False
        for part, signs in zip(value, (3, 2)):
            if type(part) is not tuple or not all(type(row) is tuple and all(type(sign) is int for sign in row)
                                                  and row in rows(places, signs) for row in part):
                return False
            if list(part) != sorted(set(part)):
                return False
        boxes, some = value
        return (together(places, boxes) == lot and len(some) == len(boxes) and set(some) <= set(lot)
                and apart(places, lot, some))

    def test_papers(self):
        counts = {}
        for places, lot in all_lots():
            paper = single_paper(places, lot)
            self.assertTrue(is_all_tuples(paper))
            self.assertTrue(self.right(places, lot, paper), (places, lot, paper))
            self.assertIs(single_holds(places, lot, paper), True)
            counts[places, len(paper[0])] = counts.get((places, len(paper[0])), 0) + 1
        self.assertEqual(max(many for places, many in counts if places == 2), 2)
        self.assertEqual(max(many for places, many in counts if places == 3), 4)
        self.assertEqual(counts[3, 4], 10)

    def test_as_few_and_as_many_as_can_be(self):
        rng = random.Random(361)
        for places, lot in [each for each in all_lots() if each[0] < 3 or rng.random() < 0.3]:
            boxes, some = single_paper(places, lot)
            self.assertEqual(len(boxes), fewest_boxes(places, lot))
            self.assertFalse(any(apart(places, lot, more) for more in itertools.combinations(lot, len(some) + 1)))

    def test_lots(self):
        most = 0
        rng = random.Random(362)
        for places, lot in all_lots():
            told = single_lots(places, lot)
            most = max(most, len(told))
            if places < 3 or rng.random() < 0.2:
                many = len(single_paper(places, lot)[0])
                every = [some for some in itertools.combinations(boxes_in(places, lot), many)
                         if together(places, some) == lot]
                self.assertEqual(told, tuple(sorted(every)))
        self.assertEqual(most, 25)
        self.assertEqual(single_lots(places=0, rows=[()]), (((),),))
        self.assertEqual(single_lots(0, ()), ((),))
        self.assertEqual(single_lots(1, [[1], (0,), [1]]), (((2,),),))
        self.assertEqual(single_lots(2, ((0, 0), (0, 1), (1, 1))), (
            ((0, 0), (2, 1)), ((0, 2), (1, 1)), ((0, 2), (2, 1))))

    def test_rows_in_any_sequence(self):
        rng = random.Random(363)
        for places, lot in rng.sample(all_lots(), 60):
            mixed = [list(row) for row in lot * 2]
            rng.shuffle(mixed)
            self.assertEqual(single_paper(places, mixed), single_paper(places, lot))
            self.assertEqual(single_lots(places, mixed), single_lots(places, lot))
            self.assertEqual(premise_count(places, mixed), premise_count(places, lot))
            self.assertIs(single_holds(places, mixed, single_paper(places, lot)), True)
            for kind in KINDS:
                for call in (kind_breach, kind_premises, kind_lots):
                    self.assertEqual(call(places, mixed, kind), call(places, lot, kind))

    def test_values(self):
        rng = random.Random(364)
        for places, lot in rng.sample(all_lots(), 60):
            paper = single_paper(places, lot)
            values = list(JUNK) + [(value, ()) for value in JUNK] + [((), value) for value in JUNK] + [listed(paper)]
            values += [(boxes, paper[1]) for boxes in single_lots(places, lot)] + [
                (boxes + paper[0][:1], paper[1]) for boxes in single_lots(places, lot)]
            values += [(paper[0], some) for some in itertools.combinations(lot, len(paper[1]))]
            # More boxes than are needed and as many rows apart: there are no such rows.
            values += [(tuple(lot), tuple(lot))]
            for value in values + list(changed(paper))[:600]:
                self.assertIs(single_holds(places, lot, value), self.right(places, lot, value), (places, lot, value))

    def test_wrong(self):
        for call, more in ((single_paper, ()), (single_holds, (None,)), (single_lots, ()), (premise_count, ()),
                           (kind_breach, ("any",)), (kind_premises, (None,)), (kind_lots, ("odd",))):
            for places in NO_PLACES:
                self.wrong(InvalidSize, {"word": "places"}, call, places, None, *more)
            for lot, at in NO_LOTS:
                self.wrong(InvalidLot, {"at": at}, call, 2, lot, *more)


class KindsTest(Wrong, unittest.TestCase):
    def made(self, kind, some):
        """The rows that rows make, reckoned here."""
        if kind == "single":
            return list(itertools.product(*[sorted(set(column)) for column in zip(*some)]))
        if kind == "right":
            return [tuple(int(all(column)) for column in zip(*some))]
        if kind == "left":
            return [tuple(int(any(column)) for column in zip(*some))]
        return [tuple(int(sum(column) > 1) for column in zip(*some))]

    def test_breaches(self):
        for kind in KINDS:
            had = {(places, lot) for places in range(4) for lot in lots_of_kind(places, kind)}
            for places, lot in all_lots():
                breach = kind_breach(places, lot, kind)
                self.assertEqual(breach is None, (places, lot) in had, (kind, lot))
                if breach is None:
                    continue
                self.assertTrue(is_all_tuples(breach))
                some, row = breach
                self.assertEqual(len(some), 3 if kind == "pair" else 2)
                self.assertEqual(list(some), sorted(set(some)))
                self.assertLessEqual(set(some), set(lot))
                self.assertNotIn(row, lot)
                self.assertIn(row, self.made(kind, some))

    def test_premises(self):
        for kind in KINDS:
            for places, lot in all_lots():
                premises = kind_premises(places, lot, kind)
                self.assertEqual(premises is None, kind_breach(places, lot, kind) is not None)
                if premises is not None:
                    self.assertTrue(is_all_tuples(premises))
                    self.assertTrue(is_of_kind(premises, kind))
                    self.assertEqual(list(premises), sorted(set(premises)))
                    self.assertFalse(any(set(left) & set(right) for left, right in premises))
                    self.assertEqual(tuple(row for row in rows(places) if wakes(premises, row)), lot)

    def test_lots(self):
        rng = random.Random(365)
        for kind in KINDS:
            had = {places: sorted(lots_of_kind(places, kind)) for places in range(4)}
            for places, lot in all_lots():
                told = kind_lots(places, lot, kind)
                self.assertEqual(list(told), sorted(set(told)))
                self.assertTrue(all(each in had[places] for each in told))
                self.assertEqual(tuple(sorted({row for each in told for row in each})), lot)
                within = [each for each in had[places] if set(each) <= set(lot)]
                if kind in ("right", "left"):
                    # As many as rows can be of which no two lie in one such lot within.
                    most = max(len(some) for some in lots(lot) if not any(
                        one in each and other in each for one, other in itertools.combinations(some, 2)
                        for each in within)) if places < 3 or rng.random() < 0.1 else len(told)
                    self.assertEqual(len(told), most)
                if kind == "pair":
                    self.assertLessEqual(len(told), 2)
                if kind == "single":
                    self.assertEqual(len(told), len(single_paper(places, lot)[0]))
                if kind == "any":
                    self.assertEqual(told, (lot,) if lot else ())
                if told and (places < 3 or rng.random() < 0.03):
                    self.assertFalse(any({row for each in fewer for row in each} == set(lot)
                                         for fewer in itertools.combinations(within, len(told) - 1)))

    def test_edges(self):
        for kind in KINDS:
            self.assertEqual(kind_lots(2, (), kind), ())
            self.assertIsNone(kind_breach(2, (), kind))
            self.assertEqual(kind_lots(0, [()], kind), (((),),))
            self.assertEqual(kind_premises(0, [()], kind), ())
            self.assertEqual(kind_premises(0, [], kind), (((), ()),))
        self.assertEqual(kind_breach(2, ((0, 1), (1, 0)), "right"), (((0, 1), (1, 0)), (0, 0)))
        self.assertEqual(kind_breach(places=2, rows=((0, 1), (1, 0)), kind="left"), (((0, 1), (1, 0)), (1, 1)))
        self.assertIsNone(kind_breach(2, ((0, 1), (1, 0)), "pair"))

    def test_wrong(self):
        for kind in (None, 5, "", "odd", "Single", True, ("any",), ["any"], EMPTY, "righ"):
            for call in (kind_breach, kind_premises, kind_lots):
                for lot in ((), ((0, 0), (1, 1))):
                    self.wrong(InvalidSize, {"word": "kind"}, call, 2, lot, kind)
                self.wrong(InvalidLot, {"at": -1}, call, 2, None, kind)
                self.wrong(InvalidSize, {"word": "places"}, call, 4, None, kind)


class LeastTest(Wrong, unittest.TestCase):
    def test_premise_count(self):
        for places, lot in all_lots():
            others = tuple(row for row in rows(places) if row not in lot)
            self.assertEqual(premise_count(places, lot), len(single_paper(places, others)[0]))
        for places, lot in all_lots(2):
            fewest = next(many for many in range(5) if any(
                tuple(row for row in rows(places) if wakes(premises, row)) == lot
                for premises in itertools.combinations(premises_of(places), many)))
            self.assertEqual(premise_count(places, lot), fewest)

    def check_wider(self, places, table):
        told = wider_rules(places, table)
        self.assertTrue(is_all_tuples(told))
        for truth, boxes in ((1, told[0]), (0, told[1])):
            self.assertEqual(list(boxes), sorted(set(boxes)))
            inside = together(places, boxes)
            for row, own in zip(rows(places), table):
                if own is not None:
                    self.assertEqual(row in inside, own == truth)
        self.assertFalse(set(together(places, told[0])) & set(together(places, told[1])))
        return told

    def test_wider_rules(self):
        rng = random.Random(366)
        for places in range(4):
            for table in itertools.product((0, 1, None), repeat=2 ** places):
                if places < 3 or rng.random() < 0.03:
                    told = self.check_wider(places, table)
                    for truth, boxes in ((1, told[0]), (0, told[1])):
                        # Neither side by itself could have fewer.
                        own = [row for row, more in zip(rows(places), table) if more == truth]
                        free = tuple(row for row, more in zip(rows(places), table) if more in (truth, None))
                        every = boxes_in(places, free)
                        if boxes:
                            self.assertFalse(any(set(own) <= set(together(places, some))
                                                 for some in itertools.combinations(every, len(boxes) - 1)))
        self.assertEqual(wider_rules(1, [None, None]), ((), ()))
        self.assertEqual(wider_rules(places=0, table=(1,)), (((),), ()))
        self.assertEqual(wider_rules(3, nth_table(3, 6560)), ((), ()))

    def test_wider_wrong(self):
        for places in NO_PLACES:
            self.wrong(InvalidSize, {"word": "places"}, wider_rules, places, None)
        for table, at in ((None, -1), (5, -1), ((), -1), ((0,), -1), ((0, 2), 1), ((True, 2), 0), ((0, False), 1), (EMPTY, -1)):
            self.wrong(InvalidLot, {"at": at}, wider_rules, 1, table)

    def test_least_book(self):
        for book in random_books(150, 367, rules=8, calm=True) + [AND, LOGIC, EMPTY]:
            least = least_book(book)
            self.assertEqual(least.makers, book.makers)
            for name, places in book.makers:
                self.assertEqual(maker_table(least, name), table_of(book, name))
                for truth, side in enumerate(("left", "right")):
                    own = tuple(row for row, told in zip(rows(places), table_of(book, name)) if told == truth)
                    self.assertEqual(len(least.rules_of(name, side)), fewest_boxes(places, own))
            self.assertTrue(is_of_kind([premise for rule in least.rules for premise in rule[2]], "single"))

    def test_too_many_rules(self):
        odd = [sum(row) % 2 for row in rows(3)]
        names = ["m" + sign for sign in "abcdefghijkl"]
        book = told_book([(name, 3, odd) for name in names[:7]])
        self.assertEqual(len(least_book(book).rules), 56)
        self.wrong(InvalidRules, {"at": 60}, least_book, told_book([(name, 3, odd) for name in names]))
        self.wrong(InvalidRules, {"at": 60}, least_book, told_book([(name, 3, odd) for name in names[:8]]))
        more = [("z", 2, (0, 1, 1, 0))]
        self.assertEqual(len(least_book(told_book([(name, 3, odd) for name in names[:7]] + more)).rules), 60)
        self.wrong(InvalidRules, {"at": 60}, least_book, told_book(
            [(name, 3, odd) for name in names[:7]] + more + [("y", 0, (1,))]))

    def test_book_wrong(self):
        for value in JUNK:
            if not isinstance(value, Book):
                self.wrong(InvalidBook, {"at": -1}, least_book, value)
        self.wrong(NotCalm, {"right": 3, "left": 2, "row": (1,)}, least_book, HARD)


if __name__ == "__main__":
    unittest.main()

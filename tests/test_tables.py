"""[31]: tables that tell books apart, books with tables told, all tables by numbers."""

import itertools
import random
import unittest

from saymakers.books import Book, book_text, maker_table, put_rules
from saymakers.court import bad_pairs, is_calm
from saymakers.errors import InvalidBook, InvalidIndex, InvalidLot, InvalidMakers, InvalidSize, NotCalm, Refused
from saymakers.judge import sheet_paper
from saymakers.tables import apart_holds, nth_table, table_number, tables_apart, told_book
from tests.test_worlds import closed
from tests.tools import (
    AND, EMPTY, JUNK, MAY, TONK, Wrong, all_worlds, calm_by_tables, changed, in_order, is_all_tuples, is_kept, is_same,
    listed, lots, random_book, rows, tells)

NO_PLACES = (-1, 4, 5, True, False, None, "1", (), [2], EMPTY)


def table_of(book, name):
    """The maker's table, reckoned here."""
    told = [tells(book, name, row) for row in rows(book.maker_places(name))]
    return tuple(next(iter(each), None) for each in told)


def proves(book, sheet):
    """Whether all worlds of the calm book keep the sheet."""
    return all(is_kept(world, *sheet) for world in all_worlds(book, closed(sheet[0] + sheet[1])))


def right_apart(one, other, value):
    """Whether the value tells two books apart, reckoned here."""
    if type(value) is not tuple or len(value) != 4 or not is_all_tuples(value):
        return False
    name, row, sheet, which = value
    if not isinstance(name, str) or name not in dict(one.makers) or type(which) is not int or which not in (0, 1):
        return False
    if not any(is_same(row, each) for each in rows(one.maker_places(name))):
        return False
    if table_of(one, name)[rows(len(row)).index(row)] == table_of(other, name)[rows(len(row)).index(row)]:
        return False
    whole = (name,) + tuple("q" if truth else "r" for truth in row)
    sheets = ((in_order(["q", whole]), ("r",)), (("q",), in_order(["r", whole])))
    return sheet in sheets and [proves(one, sheet), proves(other, sheet)] == [which == 0, which == 1]


def some_pairs(seed, many):
    """Pairs of calm books of the same makers, many of them with like tables."""
    rng = random.Random(seed)
    for _ in range(many):
        one = random_book(rng, rules=6, calm=True)
        other = random_book(rng, makers=list(one.makers), rules=6, calm=True)
        more = Book(one.makers, one.rules + other.rules[:1])
        yield one, rng.choice((other, other, more if calm_by_tables(more) else one,
                               told_book([(name, places, table_of(one, name)) for name, places in one.makers])))


class ApartTest(Wrong, unittest.TestCase):
    def test_apart(self):
        none = 0
        for one, other in some_pairs(231, 400):
            value = tables_apart(one, other)
            apart = [(name, row) for name, places in one.makers for row, first, second in
                     zip(rows(places), table_of(one, name), table_of(other, name)) if first != second]
            if not apart:
                self.assertIsNone(value)
                self.assertIs(apart_holds(one, other, None), False)
                none += 1
                continue
            self.assertEqual(value[:2], apart[0])
            self.assertTrue(right_apart(one, other, value), (one.rules, other.rules, value))
            self.assertIs(apart_holds(one, other, value), True)
            self.assertEqual([sheet_paper(book, value[2])[0] == "proof" for book in (one, other)],
                             [value[3] == 0, value[3] == 1])
        self.assertGreater(none, 30)
        self.assertLess(none, 350)

    def test_same_tables_exactly_if_same_proofs(self):
        for one, other in some_pairs(232, 120):
            apart = tables_apart(one, other) is not None
            lot = closed([(name,) + letters for name, places in one.makers for letters in
                          itertools.product("qr", repeat=places)])
            if len(lot) > 6:
                continue
            worlds = [all_worlds(book, lot) for book in (one, other)]
            sheets = [(left, right) for left in lots(lot) for right in lots(lot) if not set(left) & set(right)]
            proved = [[all(is_kept(world, *sheet) for world in each) for sheet in sheets] for each in worlds]
            self.assertEqual(proved[0] != proved[1], apart)

    def test_values(self):
        for one, other in some_pairs(233, 60):
            value = tables_apart(one, other)
            values = list(JUNK) + list(changed(value)) + [listed(value)]
            for name, places in one.makers:
                for row in rows(places):
                    whole = (name,) + tuple("q" if truth else "r" for truth in row)
                    values += [(name, row, sheet, which) for which in (0, 1) for sheet in (
                        (in_order(["q", whole]), ("r",)), (("q",), in_order(["r", whole])))]
            for each in values:
                self.assertIs(apart_holds(one, other, each), right_apart(one, other, each), (one.rules, other.rules, each))

    def test_no_places_and_either_side(self):
        one, other = Book([("t", 0)], [("t", "right", [])]), Book([("t", 0)], [("t", "left", [])])
        whole = ("t",)
        self.assertIn(tables_apart(one, other), (("t", (), (("q",), ("r", whole)), 0), ("t", (), (("q", whole), ("r",)), 1)))
        for value in (("t", (), (("q",), ("r", whole)), 0), ("t", (), (("q", whole), ("r",)), 1)):
            self.assertIs(apart_holds(one, other, value), True)
            self.assertIs(apart_holds(other, one, value), False)
            self.assertIs(apart_holds(one, other, value[:3] + (bool(value[3]),)), False)
        bare = Book([("t", 0)], [])
        self.assertEqual(tables_apart(one, bare), ("t", (), (("q",), ("r", whole)), 0))
        self.assertEqual(tables_apart(bare, one), ("t", (), (("q",), ("r", whole)), 1))
        self.assertEqual(tables_apart(bare, other), ("t", (), (("q", whole), ("r",)), 1))
        self.assertIsNone(tables_apart(EMPTY, EMPTY))
        self.assertEqual(tables_apart(MAY, Book(MAY.makers, ())),
                         ("may", (1,), (("q",), ("r", ("may", "q"))), 0))
        early = Book([("a", 1)], [("a", "right", [((), (1,))])])
        self.assertEqual(tables_apart(one=Book([("a", 1)], []), other=early)[2], (("q",), ("r", ("a", "q"))))
        self.assertEqual(tables_apart(Book([("aa", 0)], [("aa", "right", [])]), Book([("aa", 0)], []))[2],
                         (("q",), (("aa",), "r")))

    def test_wrong(self):
        for value in JUNK:
            if not isinstance(value, Book):
                for call, more in ((tables_apart, ()), (apart_holds, (None,))):
                    self.wrong(InvalidBook, {"at": -1}, call, value, value, *more)
                    self.wrong(InvalidBook, {"at": -1}, call, TONK, value, *more)
        other = put_rules(TONK, [("tonk", "left", [])])
        for call, more in ((tables_apart, ()), (apart_holds, (None,))):
            self.wrong(Refused, {"at": -1}, call, TONK, AND, *more)
            self.wrong(Refused, {"at": -1}, call, AND, TONK, *more)
            self.wrong(Refused, {"at": -1}, call, Book([("m", 1)], []), Book([("m", 2)], []), *more)
            calm = Book(TONK.makers, TONK.rules[:1])
            for one, two, wrong in ((TONK, other, TONK), (other, TONK, other), (calm, other, other), (other, calm, other)):
                right, left, woken = bad_pairs(wrong)[0]
                self.wrong(NotCalm, {"right": right, "left": left, "row": woken[0]}, call, one, two, *more)


class ToldTest(Wrong, unittest.TestCase):
    def check(self, tables):
        book = told_book(tables)
        self.assertEqual(book.makers, tuple(sorted((name, places) for name, places, table in tables)))
        for name, places, table in tables:
            self.assertEqual(table_of(book, name), tuple(table))
            self.assertEqual(maker_table(book, name), tuple(table))
            for truth, side in enumerate(("left", "right")):
                numbers = book.rules_of(name, side)
                self.assertEqual(len(numbers), int(truth in table))
                for number in numbers:
                    others = [row for row, told in zip(rows(places), table) if told != truth]
                    bars = [tuple(row for row in rows(places) if not (
                        any(not row[k - 1] for k in left) or any(row[k - 1] for k in right)))
                        for left, right in book.rules[number][2]]
                    self.assertEqual(sorted(bars), [(row,) for row in others])
        return book

    def test_all_small_tables(self):
        for places in (0, 1, 2):
            for table in itertools.product((0, 1, None), repeat=2 ** places):
                self.check([("m", places, table)])

    def test_tables(self):
        rng = random.Random(234)
        for _ in range(150):
            tables = [(name, places, [rng.choice((0, 1, None)) for _ in range(2 ** places)]) for name, places in
                      ((name, rng.choice((0, 1, 2, 3, 3))) for name in rng.sample("mnabc", rng.randint(0, 4)))]
            self.assertEqual(self.check(tables), told_book(listed(tables)[::-1]))
            self.assertTrue(is_calm(told_book(tables)))
        self.assertEqual(told_book(()), EMPTY)
        self.assertEqual(book_text(told_book([("m", 2, (0, None, None, 1)), ("n", 1, (None, None))])), "\n".join([
            "maker m 2", "maker n 1", "left m: 1 | 2; 1 2 |; 2 | 1", "right m: | 1 2; 1 | 2; 2 | 1"]))
        self.assertEqual(told_book([("t", 0, (1,)), ("m", 1, (0, 0))]),
                         Book([("t", 0), ("m", 1)], [("t", "right", []), ("m", "left", [])]))

    def test_wrong_makers(self):
        good = ("m", 1, (0, 1))
        for tables, at in ((None, -1), (5, -1), ("m", -1), (EMPTY, -1), ([5], 0), ([good, ("n", 1)], 1), ([good, good], 1),
                           ([("M", 1, ())], 0), ([("m", 4, ())], 0), ([("m", True, ())], 0), ([("m", -1, None)], 0),
                           ([good, ("n", 1, None), ("m", 1, None)], 2), ([("m", 1, None, None)], 0), ([None], 0),
                           ([("n", None, (0, 1))], 0), ([EMPTY], 0), ([(5, 1, (0, 1))], 0), ("ab", -1),
                           ([("m" + sign, 0, (None,)) for sign in "abcdefghijklmn"], 12),
                           ([("m" + sign, 0, (5,)) for sign in "abcdefghijklm"], 12)):
            self.wrong(InvalidMakers, {"at": at}, told_book, tables)
        self.assertEqual(len(told_book([("m" + sign, 0, (1,)) for sign in "abcdefghijkl"]).rules), 12)

    def test_wrong_tables(self):
        good = ("m", 1, (0, 1))
        for table in (None, 5, "01", (), (0,), (0, 1, 0), (0, 2), (0, True), (False, 1), (0, "1"), (0, (1,)), EMPTY, (0, -1)):
            self.wrong(InvalidLot, {"at": 1}, told_book, [good, ("n", 1, table), ("o", 1, table)])
            self.wrong(InvalidMakers, {"at": 2}, told_book, [good, ("n", 1, table), ("m", 1, table)])


class NumbersTest(Wrong, unittest.TestCase):
    def test_all_tables_ascending(self):
        for places in (0, 1, 2):
            tables = list(itertools.product((0, 1, None), repeat=2 ** places))
            self.assertEqual([nth_table(places, number) for number in range(len(tables))], tables)
            self.assertEqual([table_number(places, table) for table in tables], list(range(len(tables))))
        tables = itertools.product((0, 1, None), repeat=8)
        for number, table in enumerate(tables):
            if number % 37 == 0 or number > 6550:
                self.assertTrue(is_same(nth_table(3, number), table))
                self.assertEqual(table_number(places=3, table=list(table)), number)
        self.assertEqual(nth_table(0, 2), (None,))
        self.assertEqual(nth_table(1, 1), (0, 1))
        self.assertEqual(nth_table(places=3, number=6560), (None,) * 8)

    def test_wrong(self):
        for places in NO_PLACES:
            self.wrong(InvalidSize, {"word": "places"}, nth_table, places, None)
            self.wrong(InvalidSize, {"word": "places"}, table_number, places, None)
        for places, end in ((0, 3), (1, 9), (2, 81), (3, 6561)):
            for number in (end, end + 1, -1, True, None, "0", (0,), EMPTY):
                self.wrong(InvalidIndex, {"at": -1}, nth_table, places, number)
        for table, at in ((None, -1), (5, -1), ("01", -1), ((), -1), ((0,), -1), ((0, 1, 5), -1), ((0, 2), 1), ((True, 2), 0),
                          ((0, False), 1), ((None, "0"), 1), ((-1, None), 0), (EMPTY, -1), (((0,), 1), 0)):
            self.wrong(InvalidLot, {"at": at}, table_number, 1, table)


if __name__ == "__main__":
    unittest.main()

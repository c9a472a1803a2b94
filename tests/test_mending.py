"""[38] to [40]: bad rows, lots that mend, shares that show it, narrowed books."""

import itertools
import random
import unittest

from saymakers.books import Book, maker_table, put_rules, read_book, struck_rules
from saymakers.court import bad_pairs, is_calm
from saymakers.errors import InvalidBook, InvalidLot, InvalidSheet, InvalidSize
from saymakers.judge import sheet_paper
from saymakers.mending import (
    bad_rows, cheapest_lots, dealt_lot, least_lots, mixed_lots, narrow_paper, narrowed_book, strike_holds, strike_kinds,
    strike_paper)
from tests.some_proofs import random_saying
from tests.test_judge import NO_SHEETS
from tests.test_worlds import closed, right_world
from tests.tools import (
    AND, EMPTY, JUNK, LOGIC, TONK, Wrong, calm_by_tables, changed, end_sheet, is_all_tuples, is_kept, is_same, listed, lots,
    parts, premises_of, random_book, rows, sheet_of, tells, wakes, words_of)

SIDES = ("left", "right")
TWICE = read_book("maker m 1\nright m:\nright m: | 1\nleft m:\nleft m: 1 |")
BOTH = read_book("maker t 0\nright t:\nleft t:")
EIGHT = read_book("maker m 3\nright m:\nleft m:")
NINE = read_book("maker m 3\nright m:\nleft m:\nmaker t 0\nright t:\nleft t:")


def wrong_rows(book):
    """All (maker, row) told both truths, reckoned here."""
    return tuple((name, row) for name, places in book.makers for row in rows(places) if len(tells(book, name, row)) > 1)


def without(book, lot):
    """The book without these rules."""
    return Book(book.makers, [rule for at, rule in enumerate(book.rules) if at not in lot])


def mending(book):
    """All lots that mend, gone through one by one."""
    return [lot for lot in lots(range(len(book.rules))) if calm_by_tables(without(book, lot))]


def least(book):
    """All of them without which no lesser one mends."""
    every = mending(book)
    return tuple(sorted(lot for lot in every if not any(set(other) < set(lot) for other in every)))


def costs(lot, prices):
    """What the lot costs."""
    return sum(prices[at] for at in lot)


def right_strike(book, prices, value):
    """Whether the value is a paper, reckoned by all lots that mend."""
    if type(value) is not tuple or len(value) != 3 or value[0] != "struck" or not is_all_tuples(value):
        return False
    lot, shares = value[1:]
    if type(lot) is not tuple or not all(type(at) is int for at in lot) or lot not in mending(book):
        return False
    if costs(lot, prices) != min(costs(each, prices) for each in mending(book)):
        return False
    if type(shares) is not tuple or not all(type(each) is tuple and len(each) == 3 for each in shares):
        return False
    if not all(type(number) is int for each in shares for number in each) or list(shares) != sorted(shares):
        return False
    pairs = [each[:2] for each in shares]
    if len(set(pairs)) != len(pairs) or not all(
            pair in [each[:2] for each in bad_pairs(book)] for pair in pairs) or any(each[2] < 1 for each in shares):
        return False
    dealt = [sum(each[2] for each in shares if at in each[:2]) for at in range(len(book.rules))]
    return all(map(int.__le__, dealt, prices)) and sum(each[2] for each in shares) == costs(lot, prices)


def some_books(seed, many, rules=7, most=99):
    """Small books with few bad rows, most of them not calm, and prices."""
    rng = random.Random(seed)
    while many:
        makers = rng.choice((None, [("m", 1)], [("m", 2)], [("m", 3)], [("m", 1), ("n", 2)]))
        book = random_book(rng, makers, rules, 2, False if rng.random() < 0.95 else None, 0.3)
        if len(wrong_rows(book)) > 8:
            continue
        many -= 1
        yield book, [rng.choice((1, rng.randint(1, 5), rng.randint(1, most))) for _ in book.rules]


def by_dealing(book, sides):
    """The tables that a dealing tells, by names."""
    told = dict(zip(wrong_rows(book), sides))
    tables = {}
    for name, places in book.makers:
        table = []
        for row in rows(places):
            truths = tells(book, name, row)
            table.append(SIDES.index(told[name, row]) if len(truths) > 1 else truths.pop() if truths else None)
        tables[name] = tuple(table)
    return tables


def all_dealings(book):
    """All ways to deal the bad rows, ascending."""
    return list(itertools.product(SIDES, repeat=len(wrong_rows(book))))


class RowsTest(Wrong, unittest.TestCase):
    def test_bad_rows(self):
        self.assertEqual(bad_rows(TONK), (("tonk", (1, 0)),))
        self.assertEqual(bad_rows(BOTH), (("t", ()),))
        self.assertEqual(bad_rows(TWICE), (("m", (0,)), ("m", (1,))))
        for book in (EMPTY, AND, LOGIC):
            self.assertEqual(bad_rows(book), ())
        self.assertEqual(len(bad_rows(NINE)), 9)
        for book, prices in some_books(380, 200):
            self.assertTrue(is_same(bad_rows(book), wrong_rows(book)))
            self.assertEqual(is_calm(book), not bad_rows(book))

    def test_wrong(self):
        for value in JUNK:
            if isinstance(value, Book):
                continue
            for call, more in ((bad_rows, ()), (strike_paper, (None,)), (strike_holds, (None, None)), (dealt_lot, (5,)),
                               (least_lots, ()), (cheapest_lots, (5,)), (strike_kinds, (5,)), (mixed_lots, (5, 5)),
                               (narrowed_book, (5,)), (narrow_paper, (5,))):
                self.wrong(InvalidBook, {"at": -1}, call, value, *more)


class StrikeTest(Wrong, unittest.TestCase):
    def test_papers(self):
        for book, prices in some_books(381, 250):
            paper = strike_paper(book, prices)
            self.assertTrue(right_strike(book, prices, paper), (book.rules, prices, paper))
            self.assertTrue(is_same(paper, strike_paper(book, tuple(prices))))
            self.assertIs(strike_holds(book, prices, paper), True)
            self.assertIs(strike_holds(book, tuple(prices), paper), True)

    def test_fewest_rules_and_most_pairs_without_a_common_rule(self):
        for book, prices in some_books(382, 120):
            ones = [1 for _ in book.rules]
            pairs = [each[:2] for each in bad_pairs(book)]
            most = max(len(lot) for lot in lots(pairs, 4) if len({at for pair in lot for at in pair}) == 2 * len(lot))
            lot = strike_paper(book, ones)[1]
            self.assertTrue(len(lot) == most or most == 4 and len(lot) >= 4)

    def test_cheapest_lot_is_what_can_be_dealt(self):
        # Of all ways to deal shares, none has a greater sum than the cheapest lot costs.
        for book, prices in some_books(383, 150, 4, 3):
            prices = [min(price, 3) for price in prices]
            pairs = [each[:2] for each in bad_pairs(book)]
            if len(pairs) > 4:
                continue
            best = max(sum(shares) for shares in itertools.product(range(4), repeat=len(pairs))
                       if all(sum(share for pair, share in zip(pairs, shares) if at in pair) <= price
                              for at, price in enumerate(prices)))
            self.assertEqual(best, costs(strike_paper(book, prices)[1], prices))

    def test_edges(self):
        for book in (EMPTY, AND, LOGIC):
            self.assertEqual(strike_paper(book, [1] * len(book.rules)), ("struck", (), ()))
        self.assertEqual(strike_paper(TONK, [2, 1]), ("struck", (1,), ((1, 0, 1),)))
        self.assertEqual(strike_paper(TONK, [1, 99]), ("struck", (0,), ((1, 0, 1),)))
        self.assertEqual(strike_paper(TONK, [99, 98]), ("struck", (1,), ((1, 0, 98),)))
        for lot in ((0,), (1,)):
            self.assertIs(strike_holds(TONK, [99, 99], ("struck", lot, ((1, 0, 99),))), True)
        self.assertIs(strike_holds(TONK, [99, 98], ("struck", (0,), ((1, 0, 98),))), False)
        self.assertIs(strike_holds(TONK, [1, 1], ("struck", (0, 1), ((1, 0, 2),))), False)
        self.assertIs(strike_holds(TONK, [1, 1], ("struck", (), ())), False)
        self.assertIs(strike_holds(AND, [1, 1], ("struck", (0,), ())), False)
        # Shares are numbers from 1 on, and those of one pair are not told twice.
        self.assertIs(strike_holds(TWICE, [1] * 4, ("struck", (0, 2), ((2, 0, 0), (2, 1, 1), (3, 0, 1)))), False)
        self.assertIs(strike_holds(TWICE, [1] * 4, ("struck", (0, 2), ((2, 0, 1), (2, 1, 1)))), False)
        self.assertIs(strike_holds(TONK, [2, 2], ("struck", (0,), ((1, 0, 1), (1, 0, 1)))), False)
        self.assertIs(strike_holds(TWICE, [1] * 4, ("struck", (0, 2), ((2, 1, 1), (3, 0, 1)))), True)
        self.assertIs(strike_holds(TWICE, [1] * 4, ("struck", (0, 2), ((3, 0, 1), (2, 1, 1)))), False)
        self.assertIs(strike_holds(TWICE, [1] * 4, ("struck", (2, 0), ((2, 1, 1), (3, 0, 1)))), False)

    def test_any_values(self):
        for book, prices in [(TONK, [2, 1]), (TWICE, [3, 2, 1, 4]), (AND, [1, 1]), (BOTH, [5, 5])]:
            paper = strike_paper(book, prices)
            for value in list(JUNK) + list(changed(paper)) + [
                    ("struck", (0, 1), paper[2]), ("struck", (True,), paper[2]), ("struck", (0,), ()), ("struck", (9,), ())]:
                self.assertIs(strike_holds(book, prices, value), right_strike(book, prices, value), value)

    def test_sixteen_rules(self):
        rng = random.Random(384)
        premises = [premise for premise in premises_of(3) if len(premise[0] + premise[1]) == 2 and not set(premise[0]) & set(premise[1])]
        for _ in range(20):
            rules = [(name, side, [premise]) for name in "mn" for side in SIDES for premise in rng.sample(premises, 4)]
            book = Book([("m", 3), ("n", 3)], rules)
            prices = [rng.randint(1, 99) for _ in rules]
            paper = strike_paper(book, prices)
            self.assertIs(strike_holds(book, prices, paper), True)
            self.assertTrue(calm_by_tables(without(book, paper[1])))
            self.assertEqual(sum(each[2] for each in paper[2]), costs(paper[1], prices))

    def test_long_ways_of_shares(self):
        # Rules awake in two of eight rows each, in a row one behind the other: what is dealt must be dealt anew often.
        rng = random.Random(394)
        every = rows(3)
        for _ in range(60):
            there = rng.sample(every, 8)
            rules = [("m", SIDES[at % 2], [(tuple(k for k, truth in enumerate(row, 1) if truth), tuple(
                k for k, truth in enumerate(row, 1) if not truth)) for row in every if row not in there[at:at + 2]]) for at in range(8)]
            book = Book([("m", 3)], rng.sample(rules, rng.choice((7, 8))))
            prices = [rng.choice((1, 1, 2, rng.randint(1, 99))) for _ in book.rules]
            paper = strike_paper(book, prices)
            self.assertIs(strike_holds(book, prices, paper), True)
            self.assertEqual(costs(paper[1], prices), min(costs(lot, prices) for lot in mending(book)))
            self.assertTrue(right_strike(book, prices, paper))

    def test_wrong_prices(self):
        for prices in (None, 5, "11", [], [1], [1, 1, 1], [0, 1], [1, 100], [1, -1], [1, True], [1, "1"], [1, None],
                       EMPTY, [[1], 1], {1: 1}, (1, (1,))):
            for call, more in ((strike_paper, ()), (strike_holds, (None,)), (cheapest_lots, ()), (strike_kinds, ())):
                self.wrong(InvalidSize, {"word": "prices"}, call, TONK, prices, *more)
        for call in (cheapest_lots, strike_kinds):
            self.wrong(InvalidSize, {"word": "prices"}, call, NINE, [1])
            self.wrong(InvalidSize, {"word": "rows"}, call, NINE, [1] * 4)
        self.assertEqual(strike_paper(NINE, [1] * 4)[0], "struck")
        self.wrong(InvalidSize, {"word": "rows"}, least_lots, NINE)
        self.assertEqual(len(least_lots(EIGHT)), 2)


class LotsTest(Wrong, unittest.TestCase):
    def test_dealt_lots_mend(self):
        for book, prices in some_books(385, 150):
            dealt = {}
            for sides in all_dealings(book)[:64]:
                lot = dealt_lot(book, sides)
                self.assertTrue(is_same(lot, dealt_lot(book, list(sides))))
                own = tuple(at for at, rule in enumerate(book.rules) if any(
                    name == rule[0] and side != rule[1] and wakes(rule[2], row)
                    for (name, row), side in zip(wrong_rows(book), sides)))
                self.assertEqual(lot, own)
                self.assertTrue(calm_by_tables(without(book, lot)))
                dealt[lot] = True
            if len(all_dealings(book)) <= 64:
                self.assertTrue(all(lot in dealt for lot in least(book)))

    def test_least_and_cheapest_lots(self):
        kinds = {}
        for book, prices in some_books(386, 250):
            every = least(book)
            self.assertTrue(is_same(least_lots(book), every), (book.rules, every))
            low = min(costs(lot, prices) for lot in every)
            cheap = tuple(lot for lot in every if costs(lot, prices) == low)
            self.assertTrue(is_same(cheapest_lots(book, prices), cheap))
            self.assertTrue(is_same(cheapest_lots(book, tuple(prices)), cheap))
            self.assertEqual(low, costs(strike_paper(book, prices)[1], prices))
            told = strike_kinds(book, prices)
            for at in range(len(book.rules)):
                many = sum(at in lot for lot in cheap)
                self.assertEqual(told[at], "none" if not many else "all" if many == len(cheap) else "some")
                kinds[told[at]] = True
            self.assertEqual(len(told), len(book.rules))
        self.assertEqual(set(kinds), {"all", "some", "none"})

    def test_none_exactly_if_the_others_cost_more(self):
        for book, prices in some_books(387, 80):
            for at, kind in enumerate(strike_kinds(book, prices)):
                others = min(costs(lot, prices) for lot in mending(book) if at in lot) - prices[at]
                low = costs(strike_paper(book, prices)[1], prices)
                self.assertEqual(kind == "none", others > low - prices[at])

    def test_edges(self):
        for book in (EMPTY, AND):
            self.assertEqual(least_lots(book), ((),))
            self.assertEqual(cheapest_lots(book, [1] * len(book.rules)), ((),))
            self.assertEqual(strike_kinds(book, [1] * len(book.rules)), ("none",) * len(book.rules))
            self.assertEqual(dealt_lot(book, ()), ())
            self.assertEqual(dealt_lot(book, []), ())
        self.assertEqual(least_lots(TONK), ((0,), (1,)))
        self.assertEqual(strike_kinds(TONK, [1, 1]), ("some", "some"))
        self.assertEqual(strike_kinds(TONK, [1, 2]), ("all", "none"))
        self.assertEqual(dealt_lot(TONK, ["left"]), (1,))
        self.assertEqual(dealt_lot(TONK, ("right",)), (0,))

    def test_wrong_sides(self):
        for sides in (None, 5, "left", [], ["left", "left"], ["odd"], [0], [None], [["left"]], [True], EMPTY, ("Left",)):
            for call in (dealt_lot, narrowed_book):
                self.wrong(InvalidSize, {"word": "sides"}, call, TONK, sides)
        for call in (dealt_lot, narrowed_book):
            self.wrong(InvalidSize, {"word": "sides"}, call, AND, ["left"])

    def test_mixed_lots(self):
        met = 0
        for book, prices in some_books(388, 120, 6):
            every = mending(book)
            for lot, other in random.Random(len(every)).sample([(lot, other) for lot in every for other in every], min(
                    20, len(every) ** 2)):
                first, second = mixed_lots(book, list(lot), other)
                both, either = set(lot) & set(other), set(lot) | set(other)
                rights = {at for at, rule in enumerate(book.rules) if rule[1] == "right"}
                self.assertEqual(first, tuple(sorted(both & rights | either - rights)))
                self.assertEqual(second, tuple(sorted(either & rights | both - rights)))
                self.assertTrue(calm_by_tables(without(book, first)) and calm_by_tables(without(book, second)))
                self.assertEqual(costs(first, prices) + costs(second, prices), costs(lot, prices) + costs(other, prices))
                met += 1
        self.assertGreater(met, 300)

    def test_wrong_lots(self):
        for lot in (None, 5, "0", [], (), [2], [0, 0], [1, 0], [-1], [True], ["0"], [0, None], EMPTY, [(0,)]):
            self.wrong(InvalidLot, {"at": 0}, mixed_lots, TONK, lot, None)
            self.wrong(InvalidLot, {"at": 1}, mixed_lots, TONK, [0], lot)
        self.assertEqual(mixed_lots(AND, (), [0]), ((0,), ()))
        self.assertEqual(mixed_lots(TONK, [0], (1,)), ((0,), (1,)))
        self.assertEqual(mixed_lots(TONK, (0, 1), [1]), ((0, 1), (1,)))


class NarrowTest(Wrong, unittest.TestCase):
    def test_narrowed_books(self):
        for book, prices in some_books(389, 120):
            told = {}
            for sides in all_dealings(book)[:32]:
                narrow = narrowed_book(book, sides)
                self.assertEqual(narrow, narrowed_book(book, list(sides)))
                self.assertTrue(is_calm(narrow))
                self.assertEqual(narrow.makers, book.makers)
                tables = {name: maker_table(narrow, name) for name, places in book.makers}
                self.assertEqual(tables, by_dealing(book, sides))
                self.assertNotIn(tuple(tables.items()), told)
                told[tuple(tables.items())] = True
                own = []
                for name, side, premises in book.rules:
                    more = [(tuple(k for k, truth in enumerate(row, 1) if truth), tuple(k for k, truth in enumerate(row, 1) if not truth))
                            for (at, row), keeps in zip(wrong_rows(book), sides) if at == name and keeps != side and wakes(premises, row)]
                    own.append((name, side, premises + tuple(more)))
                self.assertEqual(narrow, Book(book.makers, own))
                struck = struck_rules(book, dealt_lot(book, sides))
                for name, places in book.makers:
                    for mine, more in zip(maker_table(struck, name), tables[name]):
                        self.assertIn(mine, (None, more))

    def test_what_calm_narrowed_books_tell(self):
        # Any premises put in: some dealing tells each row that the calm book tells.
        rng = random.Random(390)
        met = 0
        for book, prices in some_books(391, 150, 4):
            rules = [(name, side, premises + tuple(rng.sample(premises_of(dict(book.makers)[name]), rng.choice((0, 1, 1, 2))
                                                              if dict(book.makers)[name] else 1)))
                     for name, side, premises in book.rules]
            other = Book(book.makers, rules)
            if not calm_by_tables(other) or len(wrong_rows(book)) > 5:
                continue
            met += 1
            tables = {name: maker_table(other, name) for name, places in book.makers}
            self.assertTrue(any(all(mine in (None, more) for name in tables for mine, more in zip(tables[name], dealt[name]))
                                for dealt in (by_dealing(book, sides) for sides in all_dealings(book))))
        self.assertGreater(met, 20)

    def test_edges(self):
        self.assertEqual(narrowed_book(AND, []), AND)
        self.assertEqual(narrowed_book(EMPTY, ()), EMPTY)
        self.assertEqual(narrowed_book(TONK, ["left"]), read_book("maker tonk 2\nleft tonk: 2 |\nright tonk: | 1; 1 | 2"))
        self.assertEqual(narrowed_book(TONK, ["right"]), read_book("maker tonk 2\nleft tonk: 2 |; 1 | 2\nright tonk: | 1"))
        self.assertEqual(narrowed_book(BOTH, ["right"]), read_book("maker t 0\nright t:\nleft t: |"))
        # Rules that are alike when they are narrowed are one.
        book = Book([("m", 1)], [("m", "right", [((), ())]), ("m", "right", [((), ()), ((1,), ())]), ("m", "left", [])])
        self.assertEqual(narrowed_book(book, []), book)
        same = Book([("m", 1)], [("m", "right", []), ("m", "right", [((), (1,))]), ("m", "left", [((1,), ())])])
        self.assertEqual(len(narrowed_book(same, ["left"]).rules), 2)

    def some_sheets(self, seed, many, most=6):
        """(book, sheet) with at most four bad rows."""
        rng = random.Random(seed)
        while many:
            makers = rng.choice((None, [("m", 1)], [("m", 2)], [("t", 0), ("m", 1)]))
            book = random_book(rng, makers, 6, 2, False if rng.random() < 0.9 else None, 0.3)
            lot = closed([random_saying(rng, book, 2) for _ in range(2)] + ["p"])
            if len(wrong_rows(book)) > 4 or len(lot) > most:
                continue
            sides = ([], [])
            for saying in lot:
                if rng.random() < 0.6:
                    sides[rng.random() < 0.5].append(saying)
            many -= 1
            yield book, sheet_of(*sides)

    def worlds_but_for_bad_rows(self, book, lot):
        """All truths that are a world but for bad rows, in which each bad row is answered alike."""
        for truths in itertools.product((0, 1), repeat=len(lot)):
            world, answers, right = dict(zip(lot, truths)), {}, True
            for saying in lot:
                if isinstance(saying, str):
                    continue
                row = (saying[0], tuple(world[part] for part in saying[1:]))
                told = tells(book, *row)
                if len(told) > 1:
                    right = right and answers.setdefault(row, world[saying]) == world[saying]
                else:
                    right = right and world[saying] in (told or (0, 1))
            if right:
                yield world

    def test_papers(self):
        found = {}
        for book, sheet in self.some_sheets(392, 250):
            paper = narrow_paper(book, sheet)
            self.assertTrue(is_same(paper, narrow_paper(book, listed(sheet))))
            lot = closed(sheet[0] + sheet[1])
            kept = all(is_kept(world, *sheet) for world in self.worlds_but_for_bad_rows(book, lot))
            self.assertEqual(paper[0], "all" if kept else "some", (book.rules, sheet))
            found[paper[0], len(wrong_rows(book))] = True
            dealings = [narrowed_book(book, sides) for sides in all_dealings(book)]
            if paper[0] == "all":
                self.assertEqual(len(paper), 2)
                self.assertEqual(len(paper[1]), len(dealings))
                for narrow, proof in zip(dealings, paper[1]):
                    self.assertEqual(end_sheet(narrow, proof), sheet)
                    self.assertNotIn("join", words_of(proof))
            else:
                word, sides, world = paper
                at = all_dealings(book).index(sides)
                self.assertEqual([sheet_paper(narrow, sheet)[0] for narrow in dealings[:at + 1]], ["proof"] * at + ["world"])
                self.assertTrue(right_world(dealings[at], world))
                self.assertEqual(tuple(dict(world)), lot)
                self.assertFalse(is_kept(dict(world), *sheet))
            self.assertTrue(is_all_tuples(paper))
        self.assertLessEqual({(word, many) for word in ("all", "some") for many in (0, 1, 2)}, set(found))

    def test_sizes(self):
        four = read_book("maker m 2\nright m:\nleft m:")
        five = put_rules(Book(four.makers + (("t", 0),), four.rules), [("t", "right", []), ("t", "left", [])])
        self.assertEqual(len(narrow_paper(four, (("p",), ("p",)))[1]), 16)
        self.assertEqual(narrow_paper(four, ((), (("m", "p", "q"),)))[1], ("left",) * 4)
        self.wrong(InvalidSize, {"word": "rows"}, narrow_paper, five, (("p",), ("p",)))
        self.wrong(InvalidSheet, {"at": -1}, narrow_paper, five, (("p",), (("x",),)))
        ten = tuple("abcdefghij")
        self.assertEqual(narrow_paper(AND, (ten, ()))[0], "some")
        self.wrong(InvalidSize, {"word": "sayings"}, narrow_paper, AND, (ten, ("k",)))
        self.wrong(InvalidSize, {"word": "rows"}, narrow_paper, five, (ten, ("k",)))
        deep = ("m", ("m", ("m", "p", "q"), "r"), ("m", "q", "r"))
        self.assertEqual(len(parts(deep)), 7)
        sheet = sheet_of([deep, "s"], [("m", deep, deep), "t"])
        self.assertEqual(narrow_paper(four, sheet)[0], "some")
        self.assertEqual(narrow_paper(four, sheet_of([deep, ("m", "r", "r")], ["t", deep]))[0], "all")

    def test_wrong_sheets(self):
        for sheet in NO_SHEETS:
            self.wrong(InvalidSheet, {"at": -1}, narrow_paper, TONK, sheet)


if __name__ == "__main__":
    unittest.main()

"""[45] and [46]: shortest writings, closings of columns, rows that bar writings, the fewest makers that are wanted."""

import itertools
import random
import unittest

from saymakers.books import Book, put_rules, read_book
from saymakers.columns import fewest_rows, least_helpers, rows_hold, shortest_holds, shortest_writing
from saymakers.errors import InvalidBook, InvalidMakers, InvalidSize, NoMaker, NotCalm, Refused
from saymakers.made import writing_paper
from saymakers.tables import told_book
from tests.test_made import HALF, OPEN, letters_of, makers_of, makings, own_saying, some_tables, table_of, truths_by_rows
from tests.test_worlds import fits
from tests.tools import (
    AND, EMPTY, JUNK, LOGIC, TONK, Wrong, changed, is_all_tuples, is_same, listed, lots, parts, rows)

MIXED = Book(TONK.makers + (("not", 1),), TONK.rules)
GATES = told_book([("or", 2, (0, 1, 1, 1)), ("and", 2, (0, 0, 0, 1)), ("not", 1, (1, 0)), ("xor", 2, (0, 1, 1, 0)),
                   ("nand", 2, (1, 1, 1, 0)), ("zero", 0, (0,)), ("id", 1, (0, 1))])
# All that is 0 on noughts and 1 on ones comes of "ite": 64 columns of three letters.
ITE = told_book([("ite", 3, (0, 1, 0, 1, 0, 0, 1, 1)), ("maj", 3, (0, 0, 0, 1, 0, 1, 1, 1)), ("one", 3, (1,) * 8),
                 ("not", 1, (1, 0)), ("id", 3, (0, 0, 0, 0, 1, 1, 1, 1))])


def column_in(book, helpers, saying, letters):
    """The saying's truths, making after making of the helpers, one for each row."""
    return tuple(truth for making in makings(book, helpers) for truth in truths_by_rows(book, making, saying, letters))


def applied(book, helpers, name, columns, many):
    """What the helper makes of columns, place for place."""
    table_by_making = [dict(making).get(name, table_of(book, name)) for making in makings(book, helpers)]
    found = []
    for at in range(many * len(table_by_making)):
        table = table_by_making[at // many]
        found.append(table[sum(column[at] << (len(columns) - 1 - k) for k, column in enumerate(columns))])
    return tuple(found)


KEPT = {}


def closing(book, name, helpers, most=64):
    """The closing, if it has no more columns, as a dict: column to the fewest makers; found by going round and round."""
    key = (book.makers, book.rules, name, tuple(helpers), most)
    if key not in KEPT:
        KEPT[key] = gone_round(book, name, helpers, most)
    return KEPT[key]


def gone_round(book, name, helpers, most):
    """The closing, or None."""
    letters = letters_of(book, name)
    many = 2 ** len(letters)
    cost = {column_in(book, helpers, letter, letters): 0 for letter in letters}
    while True:
        better = {}
        for helper in helpers:
            for columns in itertools.product(list(cost), repeat=dict(book.makers)[helper]):
                found = applied(book, helpers, helper, columns, many)
                makers = 1 + sum(cost[column] for column in columns)
                if makers < min(cost.get(found, 99999), better.get(found, 99999)):
                    better[found] = makers
        if not better:
            return cost
        cost.update(better)
        if len(cost) > most:
            return None


def maker_count(saying):
    """How many makers stand in the saying."""
    return 0 if isinstance(saying, str) else 1 + sum(map(maker_count, saying[1:]))


def target(book, name, helpers):
    """The whole maker's column."""
    return column_in(book, helpers, own_saying(book, name), letters_of(book, name))


def right_shortest(book, name, helpers, value):
    """Whether the value is a paper, reckoned here."""
    if type(value) is not tuple or len(value) != 2 or not is_all_tuples(value):
        return False
    table = table_of(book, name)
    if None in table:
        gaps = [row for row, truth in zip(rows(dict(book.makers)[name]), table) if truth is None]
        return value[0] == "open" and any(is_same(value[1], row) for row in gaps)
    cost = closing(book, name, helpers)
    wanted = target(book, name, helpers)
    if wanted not in cost:
        return value[0] == "closed" and is_same(value[1], tuple(sorted(cost)))
    if value[0] != "writing" or not fits(book, value[1]) or makers_of(value[1]) - set(helpers):
        return False
    letters = letters_of(book, name)
    if not {part for part in parts(value[1]) if isinstance(part, str)} <= set(letters):
        return False
    return column_in(book, helpers, value[1], letters) == wanted and maker_count(value[1]) == cost[wanted]


def cut(book, name, helpers, numbers):
    """(the maker's truths, the closing's columns) cut to some rows."""
    return (tuple(target(book, name, helpers)[at] for at in numbers),
            tuple(sorted({tuple(column[at] for at in numbers) for column in closing(book, name, helpers)})))


def right_rows(book, name, helpers, value):
    """Whether the value is ascending rows that do, and the columns there, reckoned here."""
    if type(value) is not tuple or len(value) != 2 or not is_all_tuples(value) or type(value[0]) is not tuple:
        return False
    every = rows(len(letters_of(book, name)))
    if not all(any(is_same(row, each) for each in every) for row in value[0]) or list(value[0]) != sorted(set(value[0])):
        return False
    truths, columns = cut(book, name, helpers, [every.index(row) for row in value[0]])
    return truths not in columns and is_same(value[1], columns)


def some_cases(seed, many, gaps=0.2, most=24):
    """(book, maker, helpers) with small closings; every other maker is told as some writing is."""
    rng = random.Random(seed)
    while many:
        book = some_tables(rng, rng.choice((0, gaps)), 4)
        name = rng.choice("mno")
        helpers = rng.sample([each for each, places in book.makers if each != name], rng.randint(0, 3))
        if sum(table_of(book, helper).count(None) for helper in helpers) > 3:
            continue
        cost = closing(book, name, helpers, most)
        if cost is None:
            continue
        if None not in table_of(book, name) and rng.random() < 0.5:
            # The maker is told what some column tells in all makings alike.
            size = 2 ** len(letters_of(book, name))
            alike = [column for column in sorted(cost) if all(column[at] == column[at % size] for at in range(len(column)))]
            column = rng.choice(alike)
            if dict(book.makers)[name] or column[0] == column[1]:
                rest = Book(book.makers, [rule for rule in book.rules if rule[0] != name])
                table = column[:2 ** dict(book.makers)[name]]
                book = put_rules(rest, told_book([(name, dict(book.makers)[name], table)]).rules)
        many -= 1
        yield book, name, helpers


class ShortestTest(Wrong, unittest.TestCase):
    def test_papers(self):
        met = {}
        for book, name, helpers in some_cases(450, 400):
            paper = shortest_writing(book, name, helpers)
            self.assertTrue(is_all_tuples(paper))
            self.assertTrue(is_same(paper, shortest_writing(book, name, tuple(helpers))))
            self.assertTrue(right_shortest(book, name, helpers, paper), (book.rules, name, helpers, paper))
            self.assertIs(shortest_holds(book, name, helpers, paper), True)
            self.assertIs(shortest_holds(book, name, tuple(helpers), paper), True)
            met[paper[0]] = met.get(paper[0], 0) + 1
            if paper[0] == "open":
                self.assertEqual(paper[1], rows(dict(book.makers)[name])[table_of(book, name).index(None)])
        self.assertGreater(min(met[word] for word in ("open", "writing", "closed")), 25, met)

    def test_columns_of_writings_are_the_closing(self):
        # All sayings of so many makers have just the columns that take no more.
        for book, name, helpers in some_cases(451, 40, 0.2, 8):
            letters = letters_of(book, name)
            levels = [list(letters)]
            for many in (1, 2):
                levels.append([(helper,) + kids for helper in helpers
                               for sizes in itertools.product(range(many), repeat=dict(book.makers)[helper])
                               if sum(sizes) == many - 1 for kids in itertools.product(*[levels[size] for size in sizes])])
                if not dict(book.makers).keys() & set(helpers):
                    break
            told = {column_in(book, helpers, saying, letters) for level in levels for saying in level[:200]}
            cost = closing(book, name, helpers)
            self.assertLessEqual(told, set(cost))
            if all(len(level) <= 200 for level in levels) and len(levels) == 3:
                self.assertEqual(told, {column for column, makers in cost.items() if makers <= 2})

    def test_whole_helpers_write_it_and_open_ones_need_not(self):
        self.assertEqual(shortest_writing(HALF, "zero", ["half", "or"]), ("writing", ("half", ("or", "a", ("half", "a")))))
        self.assertEqual(writing_paper(HALF, "zero", ("half", ("or", "a", ("half", "a"))))[0], "world")
        for book, name, helpers in some_cases(452, 150):
            paper = shortest_writing(book, name, helpers)
            if paper[0] == "writing" and not any(None in table_of(book, helper) for helper in helpers):
                self.assertEqual(writing_paper(book, name, paper[1])[0], "written")

    def test_edges(self):
        self.assertEqual(shortest_writing(HALF, "not", ["half", "imp"]), ("writing", ("imp", "a", ("half", "a"))))
        # No helpers: only letters are written so; a maker of no places has one letter, too.
        self.assertEqual(shortest_writing(GATES, "id", []), ("writing", "a"))
        self.assertEqual(shortest_writing(GATES, "not", ()), ("closed", ((0, 1),)))
        self.assertEqual(shortest_writing(GATES, "zero", ()), ("closed", ((0, 1),)))
        self.assertEqual(shortest_writing(GATES, "zero", ["xor"]), ("writing", ("xor", "a", "a")))
        self.assertEqual(shortest_writing(GATES, "zero", ["or"]), ("closed", ((0, 1),)))
        self.assertEqual(shortest_writing(GATES, "and", ["nand"])[0], "writing")
        self.assertEqual(maker_count(shortest_writing(GATES, "xor", ["nand"])[1]), 5)
        self.assertEqual(shortest_writing(GATES, "or", ["and"]), ("closed", ((0, 0, 0, 1), (0, 0, 1, 1), (0, 1, 0, 1))))
        self.assertEqual(shortest_writing(OPEN, "may", []), ("open", (0,)))
        self.assertEqual(shortest_writing(OPEN, "one", ["id"]), ("open", ()))
        self.assertEqual(shortest_writing(OPEN, "id", ["one", "may"]), ("writing", "a"))
        # Columns of open helpers, making after making.
        two = told_book([("h", 0, (None,)), ("g", 1, (1, None)), ("m", 1, (1, 0))])
        self.assertEqual(shortest_writing(two, "m", ["h"]), ("closed", ((0, 0, 1, 1), (0, 1, 0, 1))))
        self.assertEqual(shortest_writing(two, "m", ["g"]), ("closed", ((0, 1, 0, 1), (0, 1, 1, 1), (1, 0, 1, 1))))

    def test_any_values(self):
        cases = [(GATES, "zero", ["xor"]), (GATES, "or", ["and"]), (OPEN, "may", []), (GATES, "not", []), (GATES, "id", ["not"]),
                 (HALF, "not", ["half", "imp"]), (OPEN, "one", [])]
        for book, name, helpers in cases:
            paper = shortest_writing(book, name, helpers)
            for value in list(JUNK) + list(changed(paper)) + [
                    ("writing", "b"), ("writing", ("not", "a")), ("writing", ("not", ("not", "a"))), ("open", (1,)), ("open", (0,)),
                    ("writing", ("xor", "b", "b")), ("writing", ["xor", "a", "a"]), ("closed", ()), ("closed", ((0, 1),))]:
                self.assertIs(shortest_holds(book, name, helpers, value), right_shortest(book, name, helpers, value), value)

    def test_any_open_row_and_any_such_saying(self):
        for row in rows(2):
            self.assertIs(shortest_holds(OPEN, "any", [], ("open", row)), True)
        for saying, right in ((("nand", "a", "a"), True), (("xor", "a", ("nand", "zero", "a")), False), (("not", "a"), False),
                              (("nand", ("nand", ("nand", "a", "a"), "a"), "a"), True), (("nand", "a", "b"), False)):
            self.assertIs(shortest_holds(GATES, "not", ["nand"], ("writing", saying)), right and maker_count(saying) == 1)
        for saying in (("or", "a", "b"), ("or", "b", "a")):
            self.assertIs(shortest_holds(put_rules(Book(GATES.makers + (("ro", 2),), GATES.rules), told_book(
                [("ro", 2, (0, 1, 1, 1))]).rules), "ro", ["or"], ("writing", saying)), True)

    def test_sixty_four_columns_and_more(self):
        paper = shortest_writing(ITE, "one", ["ite", "maj"])
        self.assertEqual(paper[0], "closed")
        self.assertEqual(len(paper[1]), 64)
        self.assertEqual({column[0] for column in paper[1]}, {0})
        self.assertEqual({column[-1] for column in paper[1]}, {1})
        self.assertEqual(list(paper[1]), sorted(set(paper[1])))
        self.assertIs(shortest_holds(ITE, "one", ["ite", "maj"], paper), True)
        self.assertEqual(shortest_writing(ITE, "maj", ["ite"])[0], "writing")
        for call, more in ((shortest_writing, ()), (shortest_holds, (5,)), (fewest_rows, ()), (rows_hold, (5,))):
            self.wrong(InvalidSize, {"word": "columns"}, call, ITE, "one", ["ite", "not"], *more)
            # Also where it would be written.
            self.wrong(InvalidSize, {"word": "columns"}, call, ITE, "maj", ["ite", "not"], *more)
        # Of a whole maker alone.
        half = put_rules(Book(ITE.makers + (("any", 3),), ITE.rules), [("any", "right", [((), (3,))])])
        self.assertEqual(shortest_writing(half, "any", ["ite", "not"]), ("open", (0, 0, 0)))
        self.assertIs(shortest_holds(half, "any", ["ite", "not"], ("open", (1, 1, 0))), True)

    def test_just_sixty_four_and_sixty_five(self):
        # All that "and" makes of six things that are free of each other is 63 columns; noughts and ones are two more.
        free = [("o" + sign, 0, (None,)) for sign in "abc"]
        book = told_book(free + [("and", 2, (0, 0, 0, 1)), ("zero", 0, (0,)), ("one", 0, (1,)), ("m", 3, (0, 1) * 4), ("n", 3, (1, 0) * 4)])
        helpers = ["oa", "ob", "oc", "and"]
        self.assertEqual(len(shortest_writing(book, "n", helpers)[1]), 63)
        for more in ("zero", "one"):
            self.assertEqual(len(shortest_writing(book, "n", helpers + [more])[1]), 64)
        for name in ("m", "n"):
            self.wrong(InvalidSize, {"word": "columns"}, shortest_writing, book, name, helpers + ["zero", "one"])
        self.assertEqual(shortest_writing(book, "m", helpers), ("writing", "c"))

    def test_fewest_makers(self):
        # Nothing takes three to six makers here, and one thing takes seven.
        book = told_book([("nor", 3, (1,) + (0,) * 7), ("one", 1, (1, 1)), ("zero", 1, (0, 0)), ("nand", 2, (1, 1, 1, 0)),
                          ("not", 1, (1, 0)), ("m", 1, (1, 0))])
        self.assertEqual(maker_count(shortest_writing(book, "one", ["nor"])[1]), 7)
        self.assertEqual(maker_count(shortest_writing(book, "zero", ["nor"])[1]), 2)
        # Each maker is counted, letters are not.
        for saying, right in ((("not", "a"), True), (("nand", "a", "a"), True), (("nor", "a", "a", "a"), True),
                              (("not", ("not", ("not", "a"))), False), (("nor", "a", "a", ("not", ("not", "a"))), False)):
            self.assertIs(shortest_holds(book, "m", ["nand", "not", "nor"], ("writing", saying)), right)
        helpers = ["and", "nand", "or"]
        for saying, right in ((("and", ("or", "a", "b"), ("nand", "b", "a")), True), (("and", ("or", "a", "b"), ("and", "b", "a")), False),
                              (("or", ("or", "a", "b"), ("nand", "b", "a")), False), (("and", ("or", "a", "c"), ("nand", "b", "a")), False)):
            self.assertIs(shortest_holds(GATES, "xor", helpers, ("writing", saying)), right)
            self.assertIs(right_shortest(GATES, "xor", helpers, ("writing", saying)), right)

    def test_open_rows(self):
        six = told_book([("m", 1, (None, None)), ("n", 2, (None,) * 4), ("o", 0, (None,)), ("s", 1, (0, 1)), ("t", 1, (1, None))])
        bare = told_book([("o" + sign, 0, (None,)) for sign in "abcdef"] + [("g", 0, (None,)), ("s", 1, (0, 1))])
        self.assertEqual(shortest_writing(bare, "s", ["o" + sign for sign in "abcdef"]), ("writing", "a"))
        self.wrong(InvalidSize, {"word": "rows"}, shortest_writing, bare, "s", ["g"] + ["o" + sign for sign in "abcdef"])
        # The closing is asked for, though a letter would do.
        self.wrong(InvalidSize, {"word": "columns"}, shortest_writing, six, "s", ["n", "m"])
        # The maker's own rows are not asked, those of its helpers are.
        self.assertEqual(shortest_writing(six, "t", ["o", "n"]), ("open", (1,)))
        for call, more in ((shortest_writing, ()), (shortest_holds, (5,)), (fewest_rows, ()), (rows_hold, (5,))):
            for name in ("s", "t"):
                self.wrong(InvalidSize, {"word": "rows"}, call, six, name, ["m", "n", "o"], *more)

    def test_largest(self):
        rng = random.Random(453)
        tables = [("h" + sign, 3, [0] + [rng.randint(0, 1) for _ in range(6)] + [1]) for sign in "abcdefg"]
        book = told_book(tables + [("m", 3, (1,) * 8), ("o", 3, (0, 0, 0, 1, 0, 1, 1, 1))])
        helpers = [name for name, places, table in tables]
        self.assertEqual(shortest_writing(book, "m", helpers)[0], "closed")
        paper = shortest_writing(book, "o", helpers)
        self.assertEqual(paper[0], "writing")
        self.assertEqual(writing_paper(book, "o", paper[1])[0], "written")

    def test_wrong(self):
        for call, more in ((shortest_writing, ()), (shortest_holds, (5,)), (fewest_rows, ()), (rows_hold, (5,))):
            for value in JUNK[:12]:
                self.wrong(InvalidBook, {"at": -1}, call, value, "x", 5, *more)
            for name in (None, 5, "", "x", "Not", True, ("not",), ["not"], EMPTY):
                self.wrong(NoMaker, {"name": name}, call, MIXED, name, 5, *more)
            for helpers in (None, 5, "or", EMPTY, True):
                self.wrong(InvalidMakers, {"at": -1}, call, MIXED, "not", helpers, *more)
            for helpers, at in ((["or", "not"], 1), (["x"], 0), (["or", "and", "or"], 2), ([5], 0), (["or", None], 1), ([["or"]], 0),
                                (["and", True, "and"], 1), ([EMPTY], 0)):
                self.wrong(InvalidMakers, {"at": at}, call, LOGIC if "not" not in helpers else GATES,
                           "no" if "not" not in helpers else "not", helpers, *more)
            self.wrong(InvalidMakers, {"at": 0}, call, MIXED, "not", ["not"], *more)
            self.wrong(NotCalm, {"right": 1, "left": 0, "row": (1, 0)}, call, MIXED, "not", ["tonk"], *more)
            self.wrong(NotCalm, {"right": 1, "left": 0, "row": (1, 0)}, call, MIXED, "tonk", [], *more)


class RowsTest(Wrong, unittest.TestCase):
    def test_fewest_rows(self):
        met = {}
        for book, name, helpers in some_cases(460, 300, 0):
            if any(None in table_of(book, each) for each in helpers + [name]):
                continue
            found = fewest_rows(book, name, helpers)
            self.assertTrue(is_same(found, fewest_rows(book, name, tuple(helpers))))
            every = rows(len(letters_of(book, name)))
            right = [numbers for numbers in lots(range(len(every)))
                     if cut(book, name, helpers, numbers)[0] not in cut(book, name, helpers, numbers)[1]][:1]
            if not right:
                self.assertIsNone(found)
                self.assertIn(target(book, name, helpers), closing(book, name, helpers))
                met[0] = met.get(0, 0) + 1
                continue
            self.assertTrue(is_same(found, (tuple(every[at] for at in right[0]), cut(book, name, helpers, right[0])[1])))
            self.assertIs(rows_hold(book, name, helpers, found), True)
            met[len(found[0])] = met.get(len(found[0]), 0) + 1
        self.assertGreater(min(met.get(many, 0) for many in (0, 1, 2)), 10, met)

    def test_any_rows_that_do(self):
        for book, name, helpers in ((GATES, "or", ["and"]), (GATES, "not", []), (GATES, "zero", ["or"]), (GATES, "id", []),
                                    (GATES, "xor", ["or", "and"]), (GATES, "and", ["xor", "not"])):
            every = rows(len(letters_of(book, name)))
            for numbers in lots(range(len(every))):
                truths, columns = cut(book, name, helpers, numbers)
                value = (tuple(every[at] for at in numbers), columns)
                self.assertIs(rows_hold(book, name, helpers, value), truths not in columns)
            found = fewest_rows(book, name, helpers)
            for value in list(JUNK) + list(changed(found)) + [((), ((),)), ((), ()), (((0,), (0,)), ((0, 0),)), (((1,), (0,)), ((1, 0),)),
                                                               (((0, 0), (0, 0)), ((0, 0), (1, 1)))]:
                self.assertIs(rows_hold(book, name, helpers, value), right_rows(book, name, helpers, value), value)

    def test_edges(self):
        self.assertEqual(fewest_rows(GATES, "not", []), (((0,),), ((0,),)))
        self.assertEqual(fewest_rows(GATES, "zero", []), (((1,),), ((1,),)))
        self.assertIsNone(fewest_rows(GATES, "zero", ["xor"]))
        self.assertIsNone(fewest_rows(GATES, "id", []))
        self.assertEqual(fewest_rows(GATES, "xor", ["or", "and"])[0], ((1, 1),))
        self.assertEqual(fewest_rows(GATES, "and", ["xor", "not"])[0], ((0, 0), (0, 1), (1, 0), (1, 1)))
        self.assertIs(rows_hold(GATES, "id", [], None), False)

    def test_open_makers(self):
        for call, more in ((fewest_rows, ()), (rows_hold, (5,))):
            self.wrong(Refused, {"at": "may"}, call, OPEN, "may", ["can"], *more)
            self.wrong(Refused, {"at": "can"}, call, OPEN, "id", ["can", "any"], *more)
            self.wrong(Refused, {"at": "one"}, call, OPEN, "id", ["one", "can"], *more)


class LeastTest(Wrong, unittest.TestCase):
    def test_least_helpers(self):
        met = {}
        for book, name, helpers in some_cases(461, 150):
            others = [each for each, places in book.makers if each != name]
            if sum(table_of(book, other).count(None) for other in others) > 3 or closing(book, name, others, 24) is None:
                continue
            found = least_helpers(book, name)
            every = [] if None in table_of(book, name) else [
                lot for lot in lots(others) if target(book, name, lot) in closing(book, name, lot)]
            least = [lot for lot in every if not any(set(other) < set(lot) for other in every)]
            self.assertTrue(is_same(found, tuple(sorted(least, key=lambda lot: (len(lot), lot)))))
            met[len(found), max([len(lot) for lot in found] + [0])] = True
        self.assertLessEqual({(0, 0), (1, 0), (1, 1), (2, 1)}, set(met))

    def test_edges(self):
        self.assertEqual(least_helpers(GATES, "id"), ((),))
        self.assertEqual(least_helpers(GATES, "zero"), (("nand",), ("xor",), ("and", "not"), ("not", "or")))
        self.assertEqual(least_helpers(GATES, "not")[0], ("nand",))
        self.assertEqual(least_helpers(AND, "and"), ())
        self.assertEqual(least_helpers(OPEN, "may"), ())
        self.wrong(InvalidSize, {"word": "rows"}, least_helpers, OPEN, "id")
        self.assertEqual(least_helpers(HALF, "zero")[:2], (("bot",), ("half", "imp")))
        self.assertEqual(least_helpers(read_book("maker t 0\nright t:\nmaker u 0\nright u:"), "t"), (("u",),))

    def test_sizes(self):
        seven = [("h" + sign, 1, (0, 1)) for sign in "abcdefg"]
        book = told_book(seven + [("m", 1, (1, 0))])
        self.assertEqual(least_helpers(book, "m"), ())
        eight = told_book(seven + [("hh", 1, (0, 1)), ("m", 1, (1, 0))])
        self.wrong(InvalidSize, {"word": "makers"}, least_helpers, eight, "m")
        wide = told_book(seven + [("hh", 3, (None,) * 8), ("m", 1, (1, 0))])
        self.wrong(InvalidSize, {"word": "rows"}, least_helpers, wide, "m")
        self.wrong(InvalidSize, {"word": "makers"}, least_helpers, told_book(seven + [("hh", 1, (0, 1)), ("m", 1, (1, None))]), "m")
        self.wrong(InvalidSize, {"word": "columns"}, least_helpers, ITE, "one")
        self.assertEqual(least_helpers(put_rules(Book(ITE.makers + (("any", 1),), ITE.rules), []), "any"), ())
        half = told_book([("m", 1, (None, None)), ("n", 2, (None,) * 4), ("o", 0, (None,)), ("s", 1, (0, 1))])
        self.wrong(InvalidSize, {"word": "rows"}, least_helpers, half, "s")
        self.assertEqual(least_helpers(half, "o"), ())
        self.assertEqual(least_helpers(half, "n"), ())

    def test_largest(self):
        rng = random.Random(462)
        tables = [("h" + sign, 3, [0] + [rng.randint(0, 1) for _ in range(6)] + [1]) for sign in "abcdefg"]
        book = told_book(tables + [("o", 3, (0, 0, 0, 1, 0, 1, 1, 1))])
        found = least_helpers(book, "o")
        self.assertTrue(found)
        for lot in found:
            self.assertEqual(shortest_writing(book, "o", lot)[0], "writing")
        none = told_book(tables + [("o", 3, (1,) * 8)])
        self.assertEqual(least_helpers(none, "o"), ())

    def test_wrong(self):
        for value in JUNK[:12]:
            self.wrong(InvalidBook, {"at": -1}, least_helpers, value, "x")
        for name in (None, 5, "", "x", "Not", True, ("not",), ["not"], EMPTY):
            self.wrong(NoMaker, {"name": name}, least_helpers, MIXED, name)
        self.wrong(NotCalm, {"right": 1, "left": 0, "row": (1, 0)}, least_helpers, MIXED, "not")
        self.assertEqual(listed(least_helpers(GATES, "id")), [[]])


if __name__ == "__main__":
    unittest.main()

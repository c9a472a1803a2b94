"""[29] and [30]: sayings exchanged everywhere, makings, what is so in each making."""

import itertools
import random
import unittest

from saymakers.alike import (
    always_holds, always_paper, exchange_holds, exchange_kind, exchange_paper, like_sheets, making_count, nth_making)
from saymakers.books import Book, put_rules, read_book
from saymakers.errors import InvalidBook, InvalidIndex, InvalidSaying, InvalidSheet, NotCalm
from saymakers.judge import sheet_paper
from saymakers.proofs import need_proof
from saymakers.tables import told_book
from tests.some_proofs import random_saying
from tests.test_facts import random_sheet
from tests.test_judge import NO_SHEETS
from tests.test_middles import HARD, sheet_key
from tests.test_sayings import NO_SAYINGS
from tests.test_wholly import gaps
from tests.test_worlds import closed, right_world
from tests.tools import (
    AND, EMPTY, JUNK, LOGIC, MAY, TONK, Wrong, all_parts, all_worlds, changed, end_sheet, is_all_tuples, is_kept, listed,
    random_book, random_books, rows, sheet_of, tells, words_of)

# `box` has 1 in each row with a 1, but row 0 is open; `dot` the other way about.
BOX = read_book("maker box 1\nright box: | 1\nmaker no 1\nright no: 1 |\nmaker top 0\nright top:")
HAD = read_book("maker box 2\nright box: | 1 2\nmaker top 0\nright top:\nmaker bot 0\nleft bot:")
BARRED = read_book("maker dot 2\nleft dot: 1 |\nleft dot: 2 |\nmaker top 0\nright top:\nmaker bot 0\nleft bot:")
TWICE = read_book("maker box 1\nright box: | 1\nmaker no 1\nleft no: | 1\nright no: 1 |\nmaker top 0\nright top:")
TOP, MAY_P = ("top",), ("may", "p")
WRONG_CALM = {"right": 3, "left": 2, "row": (1,)}


def told_row(book, name, row):
    """1, 0 or None for a row of a calm book."""
    return next(iter(tells(book, name, row)), None)


def worlds_of(book, *sayings):
    """All worlds of the sayings and their parts."""
    return all_worlds(book, closed(sayings))


def alike(book, one, other):
    """Whether all worlds give both one truth."""
    return all(world[one] == world[other] for world in worlds_of(book, one, other))


def kind_by_rows(book):
    """The kind of exchange, by the rule for rows."""
    told = [(row, told_row(book, name, row)) for name, places in book.makers if places for row in rows(places)]
    if all(truth is not None for row, truth in told):
        return "all"
    if all(truth == 1 for row, truth in told if 1 in row):
        return "had"
    return "barred" if all(truth == 0 for row, truth in told if 0 in row) else "none"


def holes(book, saying, letters, makers):
    """All sayings with so many makers around the saying, letters in the other places, as functions' results."""
    if not makers:
        yield saying
        return
    for within in holes(book, saying, letters, makers - 1):
        for name, places in book.makers:
            for place in range(places):
                for filling in itertools.product(letters, repeat=places - 1):
                    yield (name,) + filling[:place] + (within,) + filling[place:]


def is_around(first, second, one, other):
    """Whether the sayings are one saying with a hole within some maker, filled with the one and the other."""
    if isinstance(first, str) or isinstance(second, str) or len(first) != len(second) or first[0] != second[0]:
        return False
    for at in range(1, len(first)):
        if first[:at] + first[at + 1:] == second[:at] + second[at + 1:]:
            if (first[at], second[at]) == (one, other) or is_around(first[at], second[at], one, other):
                return True
    return False


def some_pairs(seed, many, most=5):
    """(book, one, other) of few parts, many of them alike, at random."""
    rng = random.Random(seed)
    like = False
    while many:
        book = rng.choice((random_book(rng, rules=6, calm=True), random_book(rng, [("m", 2), ("t", 0)], rules=8, calm=True),
                           random_book(rng, [("m", 1), ("n", 1), ("t", 0)], rules=6, calm=True), HAD, BARRED, BOX, TWICE))
        one, other = random_saying(rng, book, 2), random_saying(rng, book, 2)
        if len(closed([one, other])) > most:
            continue
        if alike(book, one, other) == like or rng.random() < 0.01:
            like = not like or one == other
            many -= 1
            yield book, one, other


class ExchangeTest(Wrong, unittest.TestCase):
    def right(self, book, one, other, value):
        """Whether the value is a paper, reckoned here."""
        if type(value) is not tuple or not value or not is_all_tuples(value):
            return False
        if value == ("same",):
            return one == other
        if one == other:
            return False
        if value[0] == "unlike" and len(value) == 2:
            return (right_world(book, value[1]) and tuple(dict(value[1])) == closed([one, other])
                    and dict(value[1])[one] != dict(value[1])[other])
        if not alike(book, one, other):
            return False
        if value[0] == "everywhere" and len(value) == 3:
            return self.exchanged(book, one) and self.proves(book, ((one,), (other,)), value[1]) and self.proves(
                book, ((other,), (one,)), value[2])
        if value[0] != "parted" or len(value) != 4 or not right_world(book, value[3]):
            return False
        word, first, second, world = value
        world = dict(world)
        return (first in world and second in world and is_around(first, second, one, other)
                and tuple(world) == closed([first, second]) and world[first] != world[second])

    def proves(self, book, sheet, value):
        """Whether the value is a proof of the sheet."""
        try:
            need_proof(book, value)
        except Exception:
            return False
        return end_sheet(book, value) == sheet

    def exchanged(self, book, one):
        """Whether the saying is exchanged everywhere with those alike, by the kind of the book."""
        truths = {world[one] for world in worlds_of(book, one)}
        kind = kind_by_rows(book)
        return kind == "all" or (kind, truths) in (("had", {1}), ("barred", {0}))

    def test_kinds(self):
        for book, kind in ((EMPTY, "all"), (LOGIC, "none"), (AND, "all"), (MAY, "had"), (HAD, "had"), (BARRED, "barred"),
                           (BOX, "none"), (Book([("t", 0)], ()), "all"), (Book([("m", 1)], ()), "none"),
                           (read_book("maker m 1\nleft m: 1 |\nmaker t 0"), "barred"), (TWICE, "none"),
                           (read_book("maker m 1\nright m: 1 |"), "none"), (read_book("maker m 1\nleft m: | 1"), "none")):
            self.assertEqual(exchange_kind(book), kind)
            self.assertEqual(kind_by_rows(book), kind)
        found = set()
        for book in random_books(300, 331, rules=8, premises=2, calm=True):
            self.assertEqual(exchange_kind(book), kind_by_rows(book))
            found.add(exchange_kind(book))
        self.assertEqual(len(found), 4)

    def test_just_one_of_four(self):
        found = {}
        for book, one, other in some_pairs(332, 300):
            paper = exchange_paper(book, one, other)
            found[paper[0]] = found.get(paper[0], 0) + 1
            self.assertTrue(is_all_tuples(paper))
            self.assertTrue(self.right(book, one, other, paper), (book.rules, one, other, paper))
            self.assertIs(exchange_holds(book, one, other, paper), True)
            self.assertIs(exchange_holds(book, listed(one), listed(other), paper), True)
            if paper[0] == "everywhere":
                self.assertNotIn("join", words_of(paper[1]) + words_of(paper[2]))
            self.assertEqual(paper[0] == "unlike", not alike(book, one, other))
            self.assertEqual(paper[0] == "same", one == other)
            if paper[0] == "parted":
                self.assertTrue(any((paper[1], paper[2]) == pair for makers in (1, 2) for pair in self.around(
                    book, one, other, paper[1], makers)))
        self.assertEqual(len(found), 4)
        self.assertGreater(min(found.values()), 10)

    def around(self, book, one, other, first, makers):
        """All pairs of sayings with the one and the other in a hole within so many makers, letters as in the first."""
        letters = [saying for saying in closed([first]) if isinstance(saying, str)] or ["p"]
        return zip(holes(book, one, letters, makers), holes(book, other, letters, makers))

    def test_exchanged_everywhere_is_alike_in_all_holes(self):
        """Within up to two makers, gone through one by one."""
        tried = {True: 0, False: 0}
        for book, one, other in some_pairs(333, 250, most=3):
            if one == other or not alike(book, one, other) or any(places > 2 for name, places in book.makers):
                continue
            everywhere = exchange_paper(book, one, other)[0] == "everywhere"
            parted = False
            for makers in (1, 2):
                for first, second in zip(holes(book, one, "xy"[:2], makers), holes(book, other, "xy", makers)):
                    if not parted and len(closed([first, second])) < 9:
                        parted = not alike(book, first, second)
            self.assertEqual(everywhere, not parted, (book.rules, one, other))
            tried[everywhere] += 1
        self.assertGreater(min(tried.values()), 5)

    def test_edges(self):
        self.assertEqual(exchange_paper(EMPTY, "p", "p"), ("same",))
        self.assertIn(exchange_paper(EMPTY, "p", "q"), (("unlike", (("p", 0), ("q", 1))), ("unlike", (("p", 1), ("q", 0)))))
        self.assertEqual(exchange_paper(LOGIC, ("and", "p", "q"), ("and", "q", "p"))[0], "parted")
        self.assertEqual(exchange_paper(AND, ("and", "p", "q"), ("and", "q", "p"))[0], "everywhere")
        # Sayings that are always 1: no open row has a 1, so two makers are wanted, or none do.
        self.assertEqual(exchange_paper(HAD, TOP, ("box", TOP, "p"))[0], "everywhere")
        self.assertEqual(exchange_paper(BARRED, ("bot",), ("dot", "p", ("bot",)))[0], "everywhere")
        paper = exchange_paper(TWICE, TOP, ("box", TOP))
        self.assertEqual(paper[:3], ("parted", ("box", ("no", TOP)), ("box", ("no", ("box", TOP)))))
        self.assertEqual(exchange_paper(book=BARRED, one=TOP, other=("bot",))[0], "unlike")

    def test_one_hole_within_any_makers(self):
        one, other = ("box", "p"), ("box", ("no", ("no", "p")))
        book = put_rules(TWICE, [("box", "left", [((1,), ())])])
        book = Book(book.makers + (("m", 2),), book.rules)
        self.assertTrue(alike(book, one, other))

        def apart(first, second):
            for world in worlds_of(book, first, second):
                if world[first] != world[second]:
                    return ("parted", first, second, tuple(world.items()))
            return ("parted", first, second, ())
        for first, second, right in (
                (("m", one, "q"), ("m", other, "q"), True), (("m", one, one), ("m", other, one), True),
                (("no", ("no", ("m", "q", one))), ("no", ("no", ("m", "q", other))), True),
                (("m", other, "q"), ("m", one, "q"), False), (("m", one, one), ("m", other, other), False),
                (("m", one, "q"), ("m", other, "r"), False), (("m", "q", one), ("m", other, "q"), False),
                (one, other, False), (("m", "q", "q"), ("m", "q", "r"), False), (("m", one, "q"), ("m", one, "q"), False)):
            value = apart(first, second)
            self.assertIs(exchange_holds(book, one, other, value), right, value)
            self.assertIs(self.right(book, one, other, value), right)
        value = apart(("m", one, "q"), ("m", other, "q"))
        self.assertIs(exchange_holds(book, one, other, value[:3] + (value[3] + (("z", 0),),)), False)
        self.assertIs(exchange_holds(book, one, other, value[:1] + (list(value[1]),) + value[2:]), False)
        self.assertIs(exchange_holds(book, "p", "q", apart(("m", "p", "q"), ("m", "q", "q"))), False)
        self.assertIs(exchange_holds(book, "p", "p", ("parted",) + apart("p", "p")[1:]), False)

    def test_values(self):
        for book, one, other in itertools.islice(some_pairs(334, 60, most=4), 50):
            paper = exchange_paper(book, one, other)
            values = list(JUNK) + [(word,) + (value,) * many for word in ("same", "unlike", "everywhere", "parted")
                                   for value in JUNK[::3] for many in (1, 2, 3)]
            values += [("unlike", tuple(world.items())) for world in worlds_of(book, one, other)] + [("same",), ["same"]]
            start = ("thin", ((one,), (other,)), ("start", one))
            values += [("everywhere", start, start), ("everywhere", ("start", one), ("start", one))]
            for value in values + list(changed(paper))[:500]:
                self.assertIs(exchange_holds(book, one, other, value), self.right(book, one, other, value),
                              (book.rules, one, other, value))

    def test_with_joins(self):
        one, other = ("and", "p", "q"), ("and", "q", "p")
        word, proof, back = exchange_paper(AND, one, other)
        joined = ("join", other, proof, ("start", other))
        self.assertIs(exchange_holds(AND, one, other, (word, joined, back)), True)
        self.assertIs(exchange_holds(AND, one, other, (word, back, proof)), False)
        self.assertIs(exchange_holds(LOGIC, one, other, (word, proof, back)), False)

    def test_wrong(self):
        for value in JUNK:
            if not isinstance(value, Book):
                self.wrong(InvalidBook, {"at": -1}, exchange_kind, value)
                self.wrong(InvalidBook, {"at": -1}, exchange_paper, value, None, None)
                self.wrong(InvalidBook, {"at": -1}, exchange_holds, value, None, None, None)
        self.wrong(NotCalm, WRONG_CALM, exchange_kind, HARD)
        for call, more in ((exchange_paper, ()), (exchange_holds, (None,))):
            for value in NO_SAYINGS + (("or", "p", "p"), ("and", "p")):
                self.wrong(InvalidSaying, {"at": 0}, call, HARD, value, value, *more)
                self.wrong(InvalidSaying, {"at": 1}, call, HARD, "p", value, *more)
            self.wrong(NotCalm, WRONG_CALM, call, HARD, "p", "p", *more)


class MakingsTest(Wrong, unittest.TestCase):
    def makings(self, book):
        """All makings in order, reckoned here."""
        every = [(name, row) for name, places in book.makers for row in gaps(book, name)]
        for truths in itertools.product((0, 1), repeat=len(every)):
            told = dict(zip(every, truths))
            yield tuple((name, tuple(told.get((name, row), told_row(book, name, row)) for row in rows(places)))
                        for name, places in book.makers)

    def test_makings(self):
        for book in random_books(80, 335, rules=8, calm=True):
            if making_count(book) > 64:
                self.assertEqual(making_count(book), 2 ** sum(len(gaps(book, name)) for name, places in book.makers))
                continue
            makings = list(self.makings(book))
            self.assertEqual(making_count(book), len(makings))
            self.assertEqual([nth_making(book, number) for number in range(len(makings))], makings)
        self.assertEqual((making_count(EMPTY), nth_making(EMPTY, 0)), (1, ()))
        self.assertEqual((making_count(AND), nth_making(book=AND, number=0)), (1, (("and", (0, 0, 0, 1)),)))
        self.assertEqual(nth_making(Book([("t", 0), ("m", 1)], ()), 5), (("m", (1, 0)), ("t", (1,))))

    def test_wrong(self):
        for value in JUNK:
            if not isinstance(value, Book):
                self.wrong(InvalidBook, {"at": -1}, making_count, value)
                self.wrong(InvalidBook, {"at": -1}, nth_making, value, None)
        self.wrong(NotCalm, WRONG_CALM, making_count, HARD)
        for number in (2, 3, -1, True, None, "0", (0,), EMPTY):
            self.wrong(InvalidIndex, {"at": -1}, nth_making, MAY, number)
            self.wrong(NotCalm, WRONG_CALM, nth_making, HARD, number)


class AlwaysTest(Wrong, unittest.TestCase):
    def likes(self, book, sayings):
        """The like sheets, reckoned here."""
        found = set()
        for one, other in itertools.permutations([saying for saying in closed(sayings) if not isinstance(saying, str)], 2):
            if one[0] == other[0]:
                for row in gaps(book, one[0]):
                    pairs = [(saying, truth) for places in (one[1:], other[1:]) for saying, truth in zip(places, row)]
                    left = {one} | {saying for saying, truth in pairs if truth}
                    right = {other} | {saying for saying, truth in pairs if not truth}
                    if not left & right:
                        found.add(sheet_of(left, right))
        return tuple(sorted(found, key=sheet_key))

    def some_sheets(self, seed, many, most=6):
        rng = random.Random(seed)
        while many:
            book = rng.choice((random_book(rng, rules=5, calm=True), random_book(rng, [("m", 1)], rules=1, calm=True),
                               random_book(rng, [("m", 1), ("n", 1)], rules=2, calm=True)))
            lot = closed([random_saying(rng, book, 3) for _ in range(rng.randint(1, 4))])
            if len(lot) <= most and making_count(book) <= 64:
                many -= 1
                yield book, random_sheet(rng, list(lot), 5)

    def always(self, book, sheet):
        """Whether the sheet has a proof in each whole book that tells what this one tells."""
        for number in range(making_count(book)):
            made = told_book([(name, dict(book.makers)[name], table) for name, table in nth_making(book, number)])
            if sheet_paper(made, sheet)[0] == "world":
                return False
        return True

    def right(self, book, sheet, value):
        """Whether the value is a paper, reckoned here."""
        if type(value) is not tuple or not value or not is_all_tuples(value):
            return False
        if value[0] == "always" and len(value) == 2:
            facts = self.likes(book, sheet[0] + sheet[1])
            try:
                need_proof(book, value[1], facts)
            except Exception:
                return False
            return end_sheet(book, value[1], facts) == sheet
        if value[0] != "made" or len(value) != 3 or type(value[1]) is not int or not 0 <= value[1] < making_count(book):
            return False
        tables = dict(nth_making(book, value[1]))
        made = told_book([(name, places, tables[name]) for name, places in book.makers])
        return (right_world(made, value[2]) and tuple(dict(value[2])) == closed(sheet[0] + sheet[1])
                and not is_kept(dict(value[2]), *sheet))

    def test_like_sheets(self):
        rng = random.Random(336)
        some = 0
        for _ in range(200):
            book = random_book(rng, rules=6, calm=True)
            sayings = [random_saying(rng, book, 2) for _ in range(rng.randint(0, 4))]
            self.assertEqual(like_sheets(book, sayings), self.likes(book, sayings))
            self.assertEqual(like_sheets(book, listed(sayings)[::-1] * 2), self.likes(book, sayings))
            some += len(self.likes(book, sayings)) > 1
        self.assertGreater(some, 30)
        self.assertEqual(like_sheets(MAY, [MAY_P, ("may", "q")]), (
            ((MAY_P,), ("p", "q", ("may", "q"))), ((("may", "q"),), ("p", "q", MAY_P))))
        self.assertEqual(like_sheets(book=AND, sayings=[("and", "p", "q"), ("and", "q", "p")]), ())
        self.assertEqual(like_sheets(EMPTY, ()), ())

    def test_just_one_of_both(self):
        found = {"always": 0, "made": 0, "joined": 0}
        for book, sheet in self.some_sheets(337, 400):
            paper = always_paper(book, sheet)
            found[paper[0]] += 1
            self.assertTrue(is_all_tuples(paper))
            self.assertTrue(self.right(book, sheet, paper), (book.rules, sheet, paper))
            self.assertIs(always_holds(book, sheet, paper), True)
            self.assertIs(always_holds(book, listed(sheet), paper), True)
            self.assertEqual(paper[0] == "always", self.always(book, sheet))
            found["joined"] += paper[0] == "always" and "told" in words_of(paper[1])
        self.assertGreater(min(found.values()), 5)

    def test_sheets_that_need_likeness(self):
        one = Book([("m", 1)], ())
        deep = ("m", ("m", ("m", "p")))
        # A maker of one place does thrice what it does once.
        for sheet in ((((deep,), (("m", "p"),))), ((("m", "p"),), (deep,))):
            paper = always_paper(one, sheet)
            self.assertTrue(self.right(one, sheet, paper))
            self.assertEqual(paper[0], "always")
        self.assertEqual(always_paper(one, ((("m", ("m", "p")),), (("m", "p"),)))[0], "made")
        sheet = (("p", "q", ("m", "p")), (("m", "q"),))
        self.assertEqual(always_paper(one, sheet), ("always", ("told", like_sheets(one, sheet[0] + sheet[1]).index(sheet))))
        self.assertEqual(always_paper(one, ((), ())), ("made", 0, ()))
        self.assertEqual(always_paper(book=one, sheet=(["p"], ["p"])), ("always", ("start", "p")))

    def test_largest(self):
        """Nine sayings and parts, makers without rules, as many like sheets as there can be."""
        for makers, sayings in (
                ([("m", 1), ("n", 1)], [("m", ("m", ("m", ("m", "p")))), ("n", ("m", ("m", ("m", "p")))), ("n", ("n", ("m", "p")))]),
                ([("m", 2)], [("m", "a", "b"), ("m", "b", "a"), ("m", "a", "a"), ("m", "b", "b"),
                              ("m", ("m", "a", "b"), "a"), ("m", "a", ("m", "a", "b"))]),
                ([("m", 3)], [("m", "a", "b", "c"), ("m", "c", "b", "a"), ("m", "b", "a", "c"), ("m", "a", "a", "b"),
                              ("m", "b", "b", "c"), ("m", "c", "c", "a")])):
            book = Book(makers, ())
            lot = closed(sayings)
            self.assertLessEqual(len(lot), 9)
            rng = random.Random(338)
            found = 0
            for _ in range(60):
                sides = ([], [])
                for saying in lot:
                    if rng.random() < 0.75:
                        sides[rng.random() < 0.5].append(saying)
                sheet = sheet_of(*sides)
                paper = always_paper(book, sheet)
                self.assertIs(always_holds(book, sheet, paper), True)
                found += paper[0] == "always"
                if paper[0] == "always":
                    self.assertLess(len(all_parts(paper[1])), 3000)
            self.assertGreater(found, 2)

    def test_values(self):
        for book, sheet in self.some_sheets(339, 40, most=4):
            values = list(JUNK) + [(word, value) for word in ("always", "made") for value in JUNK]
            values += [("made", value, ()) for value in JUNK]
            lot = closed(sheet[0] + sheet[1])
            values += [("made", number, tuple(world.items())) for number in range(min(4, making_count(book)))
                       for world in all_worlds(book, lot)]
            for value in values + list(changed(always_paper(book, sheet)))[:500]:
                self.assertIs(always_holds(book, sheet, value), self.right(book, sheet, value), (book.rules, sheet, value))

    def test_wrong(self):
        for value in JUNK:
            if not isinstance(value, Book):
                for call, args in ((like_sheets, (None,)), (always_paper, (None,)), (always_holds, (None, None))):
                    self.wrong(InvalidBook, {"at": -1}, call, value, *args)
        for value in (None, 5, "pq", EMPTY, True):
            self.wrong(InvalidSaying, {"at": -1}, like_sheets, HARD, value)
        for value in NO_SAYINGS + (("or", "p", "p"), ("and", "p")):
            self.wrong(InvalidSaying, {"at": 1}, like_sheets, HARD, ["p", value, value])
        self.wrong(NotCalm, WRONG_CALM, like_sheets, HARD, ())
        for call, more in ((always_paper, ()), (always_holds, (None,))):
            for sheet in NO_SHEETS:
                self.wrong(InvalidSheet, {"at": -1}, call, HARD, sheet, *more)
            self.wrong(NotCalm, WRONG_CALM, call, HARD, ((), ()), *more)
            self.wrong(NotCalm, {"right": 1, "left": 0, "row": (1, 0)}, call, TONK, ((), ()), *more)


if __name__ == "__main__":
    unittest.main()

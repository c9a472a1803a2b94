"""[44] and what chapter 13 tells ahead of it: writings, makings, papers of both."""

import itertools
import random
import unittest

from saymakers.books import Book, maker_table, put_rules, read_book
from saymakers.errors import InvalidBook, InvalidSaying, InvalidSize, NoMaker, NotCalm
from saymakers.judge import sheet_paper
from saymakers.made import writing_holds, writing_paper
from saymakers.proofs import need_proof
from saymakers.tables import told_book
from tests.test_sayings import DEEP, NO_SAYINGS
from tests.test_worlds import closed, right_world
from tests.tools import (
    AND, EMPTY, JUNK, LOGIC, TONK, Wrong, all_worlds, changed, end_sheet, is_all_tuples, is_same, listed, parts, rows, tells,
    words_of)

HALF = read_book("maker imp 2\nright imp: 1 | 2\nleft imp: | 1; 2 |\nmaker half 1\nleft half: | 1\n"
                 "maker or 2\nright or: | 1 2\nleft or: 1 |; 2 |\nmaker not 1\nright not: 1 |\nleft not: | 1\n"
                 "maker bot 0\nleft bot:\nmaker zero 1\nleft zero:")
TWO_OPEN = read_book("maker half 1\nleft half: | 1\nmaker or 2\nright or: | 1 2\nleft or: 1 |; 2 |\nmaker m 1\n"
                     "maker not 1\nright not: 1 |\nleft not: | 1")
OPEN = read_book("maker may 1\nright may: | 1\nmaker can 1\nright can: | 1\nmaker any 2\nmaker one 0\nmaker id 1\n"
                 "right id: | 1\nleft id: 1 |")


def letters_of(book, name):
    """The letters of a maker."""
    return tuple("abc"[:max(1, dict(book.makers)[name])])


def own_saying(book, name):
    """The maker's saying of its letters."""
    return (name,) + tuple("abc"[:dict(book.makers)[name]])


def table_of(book, name):
    """The maker's table, reckoned here."""
    return tuple((tuple(tells(book, name, row)) or (None,))[0] for row in rows(dict(book.makers)[name]))


def makers_of(saying):
    """The names of makers in the saying."""
    return {part[0] for part in parts(saying) if not isinstance(part, str)}


def makings(book, names):
    """All makings of the makers, ascending, reckoned here."""
    names = sorted(name for name in names if None in table_of(book, name))
    every = []
    for name in names:
        choices = [(0, 1) if truth is None else (truth,) for truth in table_of(book, name)]
        every.append([(name, table) for table in itertools.product(*choices)])
    return sorted(itertools.product(*every))


def truth_in(book, making, saying, row):
    """The saying's truth by a making in a row, a dict of letters."""
    if isinstance(saying, str):
        return row[saying]
    table = dict(making).get(saying[0], table_of(book, saying[0]))
    at = rows(len(saying) - 1).index(tuple(truth_in(book, making, part, row) for part in saying[1:]))
    return table[at]


def truths_by_rows(book, making, saying, letters):
    """The saying's truths in all rows of the letters."""
    return tuple(truth_in(book, making, saying, dict(zip(letters, row))) for row in rows(len(letters)))


def unlike_rows(book, name, writing):
    """All (making, row) in which the maker's saying and the writing differ, the first ones first."""
    letters, whole = letters_of(book, name), own_saying(book, name)
    return [(making, row) for making in makings(book, makers_of(writing) | {name}) for row in rows(len(letters))
            if truth_in(book, making, whole, dict(zip(letters, row))) != truth_in(
                book, making, writing, dict(zip(letters, row)))]


def unlike_worlds(book, name, writing):
    """All worlds of their parts in which they differ."""
    whole = own_saying(book, name)
    return [world for world in all_worlds(book, closed([whole, writing])) if world[whole] != world[writing]]


def right_proof(book, left, right, proof):
    """Whether the value is a proof of left | right."""
    try:
        need_proof(book, proof)
    except Exception:
        return False
    return end_sheet(book, proof) == ((left,), (right,))


def right_paper(book, name, writing, value):
    """Whether the value is a paper, reckoned here."""
    if type(value) is not tuple or not value or not is_all_tuples(value):
        return False
    whole = own_saying(book, name)
    if value[0] == "making" and len(value) == 3:
        return any(is_same(value[1:], each) for each in unlike_rows(book, name, writing))
    if value[0] == "world" and len(value) == 2 and right_world(book, value[1]):
        world = dict(value[1])
        return (not unlike_rows(book, name, writing) and whole in world and writing in world
                and world[whole] != world[writing])
    return (value[0] == "written" and len(value) == 3 and right_proof(book, whole, writing, value[1])
            and right_proof(book, writing, whole, value[2]))


def random_writing(rng, book, name, deep, helpers=None):
    """Some writing of the maker by other makers."""
    others = [maker for maker in book.makers if maker[0] != name and (helpers is None or maker[0] in helpers)]
    if not deep or not others or rng.random() < 0.25:
        return rng.choice(letters_of(book, name))
    own, places = rng.choice(others)
    return (own,) + tuple(random_writing(rng, book, name, deep - 1, helpers) for _ in range(places))


def some_tables(rng, gaps=0.25, makers=3):
    """Some small calm book with tables told."""
    tables = []
    for name in "mnos"[:makers]:
        places = rng.choice((0, 1, 1, 2, 2))
        tables.append((name, places, [rng.choice((0, 1)) if rng.random() > gaps else None for _ in range(2 ** places)]))
    return told_book(tables)


def some_cases(seed, many, most=6):
    """(book, maker, writing), every other one written."""
    rng = random.Random(seed)
    while many:
        book = some_tables(rng, rng.choice((0, 0.1, 0.3)))
        name = rng.choice("mno")
        writing = random_writing(rng, book, name, rng.choice((2, 2, 3)))
        if rng.random() < 0.3:
            # What stands twice may differ in worlds and not in makings.
            name, book = rng.choice((("m", TWO_OPEN), ("zero", HALF)))
            part = random_writing(rng, book, name, 1, ("half",))
            writing = rng.choice((("half", ("or", part, ("half", part))), ("or", ("half", "a"), ("not", ("half", "a")))))
        if rng.random() < 0.6:
            # The maker is told what the writing is, as far as it has one truth.
            rest = Book([maker for maker in book.makers if maker[0] != name], [rule for rule in book.rules if rule[0] != name])
            places = dict(book.makers)[name]
            letters = letters_of(book, name)
            told = {row[:places]: {truth_in(rest, making, writing, dict(zip(letters, row)))
                                   for making in makings(rest, makers_of(writing))} for row in rows(len(letters))}
            table = [min(told[row]) if len(told[row]) < 2 or rng.random() < 0.3 else None for row in rows(places)]
            book = put_rules(Book(book.makers, rest.rules), told_book([(name, places, table)]).rules)
        open_rows = sum(table_of(book, each).count(None) for each in makers_of(writing) | {name})
        if open_rows <= 6 and len(closed([own_saying(book, name), writing])) <= most:
            many -= 1
            yield book, name, writing


class WritingTest(Wrong, unittest.TestCase):
    def test_just_one_of_three(self):
        found = {}
        for book, name, writing in some_cases(440, 500):
            paper = writing_paper(book, name, writing)
            self.assertTrue(is_all_tuples(paper))
            self.assertTrue(is_same(paper, writing_paper(book, name, listed(writing))))
            self.assertTrue(right_paper(book, name, writing, paper), (book.rules, name, writing, paper))
            self.assertIs(writing_holds(book, name, writing, paper), True)
            self.assertIs(writing_holds(book, name, listed(writing), paper), True)
            unlike = unlike_rows(book, name, writing)
            worlds = unlike_worlds(book, name, writing)
            self.assertEqual(paper[0], "making" if unlike else "world" if worlds else "written")
            if unlike:
                self.assertEqual(paper[1:], unlike[0])
            elif worlds:
                self.assertEqual(tuple(dict(paper[1])), closed([own_saying(book, name), writing]))
            else:
                self.assertNotIn("join", words_of(paper[1]) + words_of(paper[2]))
            found[paper[0]] = found.get(paper[0], 0) + 1
        self.assertGreater(min(found.values()), 15, found)
        self.assertEqual(len(found), 3)

    def test_written_exactly_if_whole_and_one_truth_in_all_worlds(self):
        for book, name, writing in some_cases(441, 300):
            letters = letters_of(book, name)
            whole = own_saying(book, name)
            both = [sheet_paper(book, sheet)[0] for sheet in (((whole,), (writing,)), ((writing,), (whole,)))]
            lot = closed(letters + (writing,))
            agree = all(world[writing] == table_of(book, name)[rows(len(whole) - 1).index(
                tuple(world[letter] for letter in whole[1:]))] for world in all_worlds(book, lot))
            self.assertEqual(writing_paper(book, name, writing)[0] == "written",
                             None not in table_of(book, name) and agree)
            self.assertEqual(both == ["proof", "proof"], None not in table_of(book, name) and agree)

    def test_worlds_have_two_sayings_of_one_open_maker_at_one_row(self):
        met = 0
        for book, name, writing in some_cases(442, 700, 7):
            paper = writing_paper(book, name, writing)
            if paper[0] != "world":
                continue
            met += 1
            for world in unlike_worlds(book, name, writing):
                at = {}
                for saying, truth in world.items():
                    if not isinstance(saying, str) and None in table_of(book, saying[0]):
                        row = (saying[0],) + tuple(world[part] for part in saying[1:])
                        at.setdefault(row, set()).add(truth)
                self.assertTrue(any(len(truths) == 2 for truths in at.values()))
        self.assertGreater(met, 15)

    def test_edges(self):
        # A writing that is a letter alone, makers of no places, whole and open ones.
        self.assertEqual(writing_paper(OPEN, "id", "a")[0], "written")
        self.assertEqual(writing_paper(OPEN, "may", "a"), ("making", (("may", (1, 1)),), (0,)))
        self.assertEqual(writing_paper(OPEN, "may", ("can", "a")), ("making", (("can", (0, 1)), ("may", (1, 1))), (0,)))
        self.assertEqual(writing_paper(OPEN, "one", "a"), ("making", (("one", (0,)),), (1,)))
        self.assertEqual(writing_paper(HALF, "bot", "a"), ("making", (), (1,)))
        self.assertEqual(writing_paper(HALF, "bot", ("zero", "a"))[0], "written")
        self.assertEqual(writing_paper(HALF, "bot", ("not", ("or", "a", ("not", "a"))))[0], "written")
        self.assertEqual(writing_paper(HALF, "zero", ("bot",))[0], "written")
        self.assertEqual(writing_paper(HALF, "zero", ("half", ("or", "a", ("half", "a"))))[0], "world")
        self.assertEqual(writing_paper(HALF, "not", ("imp", "a", ("bot",)))[0], "written")
        self.assertEqual(writing_paper(HALF, "not", ("half", "a")), ("making", (("half", (0, 0)),), (0,)))
        self.assertEqual(writing_paper(HALF, "not", ("imp", "a", ("half", "a")))[0], "written")
        self.assertEqual(writing_paper(HALF, "half", ("not", "a")), ("making", (("half", (0, 0)),), (0,)))
        self.assertEqual(writing_paper(LOGIC, "most", ("or", ("and", "a", "b"), ("and", "c", ("or", "a", "b"))))[0], "written")
        self.assertEqual(writing_paper(LOGIC, "most", "c"), ("making", (), (0, 0, 1)))
        self.assertEqual(writing_paper(OPEN, "any", ("may", ("can", "b"))),
                         ("making", (("any", (0, 0, 0, 0)), ("can", (0, 1)), ("may", (0, 1))), (0, 1)))

    def test_any_values(self):
        cases = [(OPEN, "may", "a"), (OPEN, "may", ("can", "a")), (OPEN, "one", "a"), (HALF, "bot", "a"), (OPEN, "id", "a"),
                 (HALF, "zero", ("half", ("or", "a", ("half", "a")))), (HALF, "not", ("imp", "a", ("bot",)))]
        for book, name, writing in cases:
            paper = writing_paper(book, name, writing)
            for value in list(JUNK) + list(changed(paper)) + [("making", (), (0,)), ("written",), ("world", ()),
                                                              ("making", (("may", (0, 1)),), (0,))]:
                self.assertIs(writing_holds(book, name, writing, value), right_paper(book, name, writing, value), value)

    def test_any_making_and_row(self):
        met = 0
        for book, name, writing in some_cases(443, 120):
            letters = letters_of(book, name)
            unlike = unlike_rows(book, name, writing)
            for making in makings(book, makers_of(writing) | {name}):
                for row in rows(len(letters)):
                    self.assertIs(writing_holds(book, name, writing, ("making", making, row)), (making, row) in unlike)
                    met += (making, row) in unlike
            more = makings(book, [each for each, places in book.makers])
            for making in more[:8]:
                value = ("making", making, rows(len(letters))[0])
                self.assertIs(writing_holds(book, name, writing, value), right_paper(book, name, writing, value))
        self.assertGreater(met, 100)

    def test_any_world_and_any_proofs(self):
        for book, name, writing in some_cases(444, 300):
            whole = own_saying(book, name)
            lot = closed([whole, writing, "z"])
            unlike = unlike_rows(book, name, writing)
            for world in all_worlds(book, lot)[:40]:
                self.assertIs(writing_holds(book, name, writing, ("world", tuple(world.items()))),
                              not unlike and world[whole] != world[writing])
            paper = writing_paper(book, name, writing)
            if paper[0] == "written":
                thin = ("thin", ((whole,), ()), paper[1])
                join = ("join", writing, paper[1], ("start", writing))
                for proof in (thin, join):
                    self.assertIs(writing_holds(book, name, writing, ("written", proof, paper[2])), True)
                self.assertIs(writing_holds(book, name, writing, ("written", paper[2], paper[1])), whole == writing)

    def test_sizes(self):
        chain = "a"
        for _ in range(12):
            chain = ("not", chain)
        self.assertEqual(writing_paper(HALF, "zero", chain)[0], "making")
        with self.subTest("fourteen"):
            self.assertEqual(len(closed([("zero", "a"), chain])), 14)
        for call, more in ((writing_paper, ()), (writing_holds, (5,))):
            self.wrong(InvalidSize, {"word": "sayings"}, call, HALF, "zero", ("not", chain), *more)
        six = told_book([("m", 1, (None, None)), ("n", 2, (None, None, None, None)), ("o", 0, (None,)), ("s", 1, (0, 1))])
        self.assertEqual(writing_paper(six, "m", ("n", "a", "a")),
                         ("making", (("m", (0, 0)), ("n", (0, 0, 0, 1))), (1,)))
        for call, more in ((writing_paper, ()), (writing_holds, (5,))):
            self.wrong(InvalidSize, {"word": "rows"}, call, six, "m", ("n", "a", ("o",)), *more)
            self.wrong(InvalidSize, {"word": "rows"}, call, six, "m", ("s", ("n", "a", ("o",))), *more)
        # Makers that stand in neither are not counted.
        self.assertEqual(writing_paper(six, "s", ("n", "a", "a"))[0], "making")
        great = put_rules(Book(six.makers + HALF.makers, six.rules), HALF.rules)
        wide = ("n", chain, ("o",))
        self.wrong(InvalidSize, {"word": "sayings"}, writing_paper, great, "m", wide)

    def test_largest(self):
        book = told_book([("m", 3, (None,) * 3 + (0, 1, 1, 0, 1)), ("n", 2, (None,) * 3 + (0,)), ("o", 2, (0, 1, 1, 0)),
                          ("s", 1, (1, 0)), ("t", 3, (0, 0, 0, 1, 0, 1, 1, 1))])
        writing = ("o", ("t", ("n", "a", "b"), ("n", "b", "c"), ("s", "a")), ("o", ("n", "a", "c"), ("s", ("s", "b"))))
        self.assertEqual(len(closed([own_saying(book, "m"), writing])), 13)
        paper = writing_paper(book, "m", writing)
        self.assertEqual(paper[1:], unlike_rows(book, "m", writing)[0])
        self.assertIs(writing_holds(book, "m", writing, paper), True)
        worded = ("t", ("s", ("s", "a")), ("o", ("o", "b", "c"), "c"), ("s", ("s", ("s", ("s", "c")))))
        self.assertEqual(writing_paper(put_rules(Book(book.makers + (("u", 3),), book.rules), [
            ("u", side, premises) for name, side, premises in book.rules if name == "t"]), "u", worded)[0], "written")

    def test_wrong(self):
        for call, more in ((writing_paper, ()), (writing_holds, (5,))):
            for value in JUNK[:12]:
                self.wrong(InvalidBook, {"at": -1}, call, value, "x", 5, *more)
            for name in (None, 5, "", "x", "And", True, ("and",), ["and"], EMPTY, b"and"):
                self.wrong(NoMaker, {"name": name}, call, AND, name, 5, *more)
            for writing in NO_SAYINGS + (("and", "a", "b"), "c", "p", ("or", "a", "b"), ("not", "c"), ("not", ("and", "a", "b")),
                                         DEEP, ("not",), ("not", "a", "b")):
                book = put_rules(Book(AND.makers + (("not", 1),), AND.rules), [])
                self.wrong(InvalidSaying, {"at": 0}, call, book, "and", writing, *more)
            mixed = Book(TONK.makers + (("not", 1),), TONK.rules)
            self.wrong(NoMaker, {"name": "x"}, call, mixed, "x", "p", *more)
            self.wrong(InvalidSaying, {"at": 0}, call, mixed, "not", "b", *more)
            self.wrong(NotCalm, {"right": 1, "left": 0, "row": (1, 0)}, call, mixed, "not", "a", *more)
            chain = "a"
            for _ in range(20):
                chain = ("not", chain)
            self.wrong(NotCalm, {"right": 1, "left": 0, "row": (1, 0)}, call, mixed, "tonk", chain, *more)

    def test_tables_of_the_tests(self):
        for book in (HALF, OPEN, LOGIC):
            for name, places in book.makers:
                self.assertEqual(table_of(book, name), maker_table(book, name))


if __name__ == "__main__":
    unittest.main()

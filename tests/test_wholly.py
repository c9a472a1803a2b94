"""[27] and [28]: open rows, whole makers, proofs whose starts are letters, half-worlds, lots."""

import itertools
import random
import unittest

from saymakers.books import Book, put_rules, read_book
from saymakers.errors import InvalidBook, InvalidSaying, InvalidSheet, NoMaker, NotCalm
from saymakers.facts import follow_paper
from saymakers.judge import sheet_paper
from saymakers.proofs import need_proof
from saymakers.wholly import letters_hold, letters_paper, lot_paper, open_rows, whole_holds, whole_paper
from tests.some_proofs import random_saying
from tests.test_facts import random_sheet
from tests.test_judge import NO_SHEETS
from tests.test_middles import HARD
from tests.test_sayings import NO_SAYINGS
from tests.test_worlds import closed, right_world
from tests.tools import (
    AND, EMPTY, JUNK, LOGIC, MAY, TONK, XOR, Wrong, all_parts, all_worlds, changed, end_sheet, height_of, is_all_tuples,
    is_same, listed, random_book, random_books, rows, sheet_of, tells, words_of)

PARTLY = read_book("maker m 2\nright m: | 1; | 2\nleft m: 1 |\nmaker t 0\nright t:\nmaker o 0\nmaker s 1")
MAY_P = ("may", "p")


def gaps(book, name):
    """The open rows, reckoned here."""
    return tuple(row for row in rows(book.maker_places(name)) if not tells(book, name, row))


def starts_of(proof):
    """The sayings of all starts."""
    return [part[1] for part in all_parts(proof) if part[0] == "start"]


def is_letters_proof(book, sheet, proof):
    """Whether the value is a proof of the sheet with letters as starts, reckoned here."""
    try:
        need_proof(book, proof)
    except Exception:
        return False
    return end_sheet(book, proof) == sheet and all(isinstance(saying, str) for saying in starts_of(proof))


def whole_sheet(book, name):
    """The sheet with the maker's saying of letters on both sides."""
    whole = (name,) + tuple("abc")[:book.maker_places(name)]
    return ((whole,), (whole,))


def told_by_halves(book, name, row):
    """What awake rules tell; halves count as 1 on the left of a premise and as 0 on the right."""
    found = set()
    for own, side, premises in book.rules:
        if own == name and all(any(row[k - 1] == 0 for k in left) or any(row[k - 1] == 1 for k in right)
                               for left, right in premises):
            found.add(int(side == "right"))
    return found


def half_worlds(book, lot):
    """All half-worlds of a closed lot, as dicts."""
    found = []
    for truths in itertools.product(*[(0, 1) if isinstance(saying, str) else (0, 1, 2) for saying in lot]):
        world = dict(zip(lot, truths))
        if all(isinstance(saying, str) or not told_by_halves(book, saying[0], [world[part] for part in saying[1:]]) - {truth}
               for saying, truth in world.items()):
            found.append(world)
    return found


def counts_against(world, sheet):
    """Whether all on the left count as 1, all on the right as 0."""
    return all(world[saying] for saying in sheet[0]) and all(world[saying] != 1 for saying in sheet[1])


def some_sheets(seed, many, most=5):
    """(book, sheet) of few parts, at random."""
    rng = random.Random(seed)
    while many:
        book = rng.choice((random_book(rng, rules=6, calm=True), random_book(rng, [("m", 2)], rules=8, calm=True)))
        lot = closed([random_saying(rng, book, 2) for _ in range(rng.randint(1, 2))])
        if len(lot) <= most:
            many -= 1
            sheet = random_sheet(rng, list(lot))
            if rng.random() < 0.3:
                sheet = (lot[-1:], lot[-1:])
            yield book, sheet


class WholeTest(Wrong, unittest.TestCase):
    def right(self, book, name, value):
        """Whether the value is a paper, reckoned here."""
        if type(value) is not tuple or len(value) != 2 or not is_all_tuples(value):
            return False
        if value[0] == "whole":
            return is_letters_proof(book, whole_sheet(book, name), value[1])
        return value[0] == "open" and any(is_same(value[1], row) for row in gaps(book, name))

    def test_open_rows(self):
        self.assertEqual(open_rows(PARTLY, "m"), ((1, 0),))
        self.assertEqual(open_rows(PARTLY, "t"), ())
        self.assertEqual(open_rows(PARTLY, "o"), ((),))
        self.assertEqual(open_rows(PARTLY, "s"), ((0,), (1,)))
        for book in random_books(150, 321, rules=6, calm=True):
            for name, places in book.makers:
                self.assertEqual(open_rows(book, name), gaps(book, name))

    def test_papers(self):
        found = {"whole": 0, "open": 0}
        for book in random_books(300, 322, rules=8, calm=True) + [AND, LOGIC, XOR, MAY, PARTLY]:
            for name, places in book.makers:
                paper = whole_paper(book, name)
                found[paper[0]] += 1
                self.assertTrue(is_all_tuples(paper))
                self.assertTrue(self.right(book, name, paper))
                self.assertIs(whole_holds(book, name, paper), True)
                self.assertEqual(paper[0] == "open", bool(gaps(book, name)))
                if paper[0] == "open":
                    self.assertEqual(paper[1], gaps(book, name)[0])
                else:
                    self.assertNotIn("join", words_of(paper[1]))
                    self.assertLessEqual(height_of(paper[1]), places + 1)
        self.assertGreater(min(found.values()), 50)

    def test_all_whole_makers_of_three_places(self):
        """Rules that tell rows one by one or in boxes: the height must be kept."""
        rng = random.Random(323)
        for _ in range(60):
            table = [rng.choice((0, 1)) for _ in range(8)]
            rules = []
            for side, truth in (("left", 0), ("right", 1)):
                own = [row for row, told in zip(rows(3), table) if told == truth]
                while own:
                    some, own = own[:2], own[2:]
                    rules.append(("m", side, [(tuple(k for k in (1, 2, 3) if row[k - 1]), tuple(
                        k for k in (1, 2, 3) if not row[k - 1])) for row in rows(3) if row not in some]))
            book = Book([("m", 3)], rules)
            paper = whole_paper(book, "m")
            self.assertTrue(self.right(book, "m", paper))
            self.assertLessEqual(height_of(paper[1]), 4)

    def test_values(self):
        for book in random_books(40, 324, rules=4, premises=2, calm=True) + [AND, PARTLY]:
            for name, places in book.makers:
                values = list(JUNK) + [("open", row) for row in rows(places)] + [("open", list(row)) for row in rows(places)]
                values += [(word, value) for word in ("whole", "open") for value in JUNK]
                for value in values + list(changed(whole_paper(book, name)))[:600]:
                    self.assertIs(whole_holds(book, name, value), self.right(book, name, value), (book.rules, name, value))

    def test_any_proof_of_letters(self):
        whole = ("and", "a", "b")
        a, b = ("start", "a"), ("start", "b")
        left, right = ("rule", 0, ("a", "b"), (a,)), ("rule", 1, ("a", "b"), (a, b))
        both = ("rule", 0, ("a", "b"), (right,))
        self.assertEqual(end_sheet(AND, both), ((whole,), (whole,)))
        self.assertIs(whole_holds(AND, "and", ("whole", both)), True)
        self.assertIs(whole_holds(AND, "and", ("whole", ("join", "c", both, both))), True)
        self.assertIs(whole_holds(AND, "and", ("whole", ("join", whole, both, both))), True)
        self.assertIs(whole_holds(AND, "and", ("whole", ("start", whole))), False)
        self.assertIs(whole_holds(AND, "and", ("whole", ("join", whole, both, ("start", whole)))), False)
        self.assertIs(whole_holds(AND, "and", ("whole", left)), False)
        self.assertIs(whole_holds(AND, "and", ("open", (0, 0))), False)
        self.assertIs(whole_holds(PARTLY, "s", ("open", (1,))), True)
        self.assertIs(whole_holds(PARTLY, "t", ("whole", ("thin", ((("t",),), ()), ("rule", list(PARTLY.rules).index(
            ("t", "right", ())), (), ())))), True)

    def test_copies(self):
        """A maker is whole exactly if it is exchanged with a copy of its rules, and exactly if like places tell it."""
        found = set()
        for book in random_books(150, 325, rules=6, calm=True):
            for name, places in book.makers:
                copy = Book(book.makers + (("copy", places),), book.rules + tuple(
                    ("copy", side, premises) for own, side, premises in book.rules if own == name))
                whole, other = (name,) + tuple("abc")[:places], ("copy",) + tuple("abc")[:places]
                right = not gaps(book, name)
                for sheet in (((whole,), (other,)), ((other,), (whole,))):
                    self.assertEqual(sheet_paper(copy, sheet)[0] == "proof", right)
                if places:
                    facts = [fact for one, more in zip("abc"[:places], "def") for fact in (
                        ((one,), (more,)), ((more,), (one,)))]
                    goal = ((whole,), ((name,) + tuple("def")[:places],))
                    self.assertEqual(follow_paper(book, facts, goal)[0] == "tree", right)
                found.add((right, places))
        self.assertGreaterEqual(len(found), 6)

    def test_wrong(self):
        for call, more in ((open_rows, ()), (whole_paper, ()), (whole_holds, (None,))):
            for value in JUNK:
                if not isinstance(value, Book):
                    self.wrong(InvalidBook, {"at": -1}, call, value, None, *more)
            for name in ("n", None, 5, "", ["and"], EMPTY, True, ("so",)):
                self.wrong(NoMaker, {"name": name}, call, HARD, name, *more)
            for name in ("and", "so"):
                self.wrong(NotCalm, {"right": 3, "left": 2, "row": (1,)}, call, HARD, name, *more)


class LettersTest(Wrong, unittest.TestCase):
    def right(self, book, sheet, value):
        """Whether the value is a paper, reckoned here."""
        if type(value) is not tuple or len(value) != 2 or not is_all_tuples(value):
            return False
        if value[0] == "proof":
            return is_letters_proof(book, sheet, value[1])
        if value[0] != "half" or type(value[1]) is not tuple:
            return False
        return any(is_same(value[1], tuple(world.items())) and counts_against(world, sheet)
                   for world in half_worlds(book, closed(sheet[0] + sheet[1])))

    def test_just_one_of_both(self):
        found = {"proof": 0, "half": 0}
        for book, sheet in some_sheets(326, 500):
            paper = letters_paper(book, sheet)
            found[paper[0]] += 1
            self.assertTrue(is_all_tuples(paper))
            self.assertTrue(self.right(book, sheet, paper), (book.rules, sheet, paper))
            self.assertIs(letters_hold(book, sheet, paper), True)
            self.assertIs(letters_hold(book, listed(sheet), paper), True)
            if paper[0] == "proof":
                self.assertNotIn("join", words_of(paper[1]))
            halves = [world for world in half_worlds(book, closed(sheet[0] + sheet[1])) if counts_against(world, sheet)]
            self.assertEqual(paper[0] == "half", bool(halves))
        self.assertGreater(min(found.values()), 60)

    def test_edges(self):
        self.assertEqual(letters_paper(EMPTY, ((), ())), ("half", ()))
        self.assertEqual(letters_paper(EMPTY, (("p",), ("p",))), ("proof", ("start", "p")))
        self.assertEqual(letters_paper(MAY, ((MAY_P,), (MAY_P,))), ("half", (("p", 0), (MAY_P, 2))))
        self.assertEqual(letters_paper(MAY, ((MAY_P, "p"), (MAY_P,)))[0], "proof")
        self.assertEqual(letters_paper(PARTLY, ((("o",),), (("o",),))), ("half", ((("o",), 2),)))
        self.assertEqual(letters_paper(PARTLY, ((("t",),), (("t",),)))[0], "proof")
        self.assertEqual(letters_paper(book=EMPTY, sheet=(["p"], ["q"])), ("half", (("p", 1), ("q", 0))))

    def test_values(self):
        for book, sheet in some_sheets(327, 60, most=4):
            lot = closed(sheet[0] + sheet[1])
            values = list(JUNK) + [(word, value) for word in ("proof", "half") for value in JUNK]
            values += [("half", tuple(zip(lot, truths))) for truths in itertools.product((0, 1, 2), repeat=len(lot))]
            values += [("half", tuple(zip(lot, (1,) * len(lot))) + (("z", 0),)), ("half", tuple(zip(lot, (0,) * len(lot)))[:-1])]
            for value in values + list(changed(letters_paper(book, sheet)))[:600]:
                self.assertIs(letters_hold(book, sheet, value), self.right(book, sheet, value), (book.rules, sheet, value))

    def test_letters_with_names_of_makers(self):
        book = read_book("maker p 0\nright p:\nmaker q 0\nleft q:\nmaker s 1")
        for sheet in ((((("p",), "q"), ("p",))), ((("q", ("q",)), ("p",))), ((("s", "q"), "s"), (("s", "q"), ("p",)))):
            sheet = sheet_of(*sheet)
            self.assertTrue(self.right(book, sheet, letters_paper(book, sheet)))
            for truths in itertools.product((0, 1, 2), repeat=len(closed(sheet[0] + sheet[1]))):
                value = ("half", tuple(zip(closed(sheet[0] + sheet[1]), truths)))
                self.assertIs(letters_hold(book, sheet, value), self.right(book, sheet, value))

    def test_with_joins(self):
        whole = ("and", "p", "q")
        proof = letters_paper(AND, ((whole,), (whole,)))[1]
        self.assertIs(letters_hold(AND, ((whole,), (whole,)), ("proof", ("join", whole, proof, proof))), True)
        self.assertIs(letters_hold(AND, ((whole,), (whole,)), ("proof", ("start", whole))), False)
        self.assertIs(letters_hold(AND, ((whole,), (whole,)), ("proof", ("join", "z", proof, ("start", whole)))), False)

    def test_nine_sayings(self):
        whole = "p"
        for _ in range(8):
            whole = ("no", whole)
        self.assertEqual(letters_paper(LOGIC, ((whole,), (whole,)))[0], "proof")
        deep = ("s", ("s", ("s", ("s", ("s", ("s", ("s", ("s", "p"))))))))
        self.assertEqual(letters_paper(PARTLY, ((deep,), (deep,)))[0], "half")
        wide = ("most", ("and", "p", "q"), ("or", "q", "r"), ("if", "p", ("no", "r")))
        self.assertEqual(letters_paper(LOGIC, ((wide,), (wide,)))[0], "proof")

    def test_wrong(self):
        for call, more in ((letters_paper, ()), (letters_hold, (None,))):
            for value in JUNK:
                if not isinstance(value, Book):
                    self.wrong(InvalidBook, {"at": -1}, call, value, None, *more)
            for sheet in NO_SHEETS:
                self.wrong(InvalidSheet, {"at": -1}, call, HARD, sheet, *more)
            self.wrong(NotCalm, {"right": 3, "left": 2, "row": (1,)}, call, HARD, ((), ()), *more)


class LotTest(Wrong, unittest.TestCase):
    def test_lots(self):
        found = {"one": 0, "two": 0}
        rng = random.Random(328)
        for _ in range(300):
            book = random_book(rng, rules=8, calm=True)
            sayings = [random_saying(rng, book, 2) for _ in range(rng.randint(0, 3))]
            lot = closed(sayings)
            if len(lot) > 6:
                continue
            paper = lot_paper(book, sayings)
            self.assertEqual(lot_paper(book, listed(sayings)[::-1]), paper)
            found[paper[0]] += 1
            told = [tuple(world[saying] for saying in lot if isinstance(saying, str)) for world in all_worlds(book, lot)]
            self.assertEqual(paper[0] == "one", len(told) == len(set(told)))
            if paper[0] == "two":
                word, first, second = paper
                self.assertNotEqual(first, second)
                for world in (first, second):
                    self.assertTrue(right_world(book, world))
                    self.assertEqual(tuple(dict(world)), lot)
                self.assertEqual([dict(first)[saying] for saying in lot if isinstance(saying, str)],
                                 [dict(second)[saying] for saying in lot if isinstance(saying, str)])
            # Exactly if each saying has a proof of itself from itself with letters as starts.
            alone = all(letters_paper(book, ((saying,), (saying,)))[0] == "proof" for saying in lot)
            self.assertEqual(paper[0] == "one", alone)
        self.assertGreater(min(found.values()), 40)

    def test_edges(self):
        self.assertEqual(lot_paper(EMPTY, ()), ("one",))
        self.assertEqual(lot_paper(EMPTY, list("pq")), ("one",))
        self.assertEqual(lot_paper(PARTLY, [("o",)]), ("two", ((("o",), 0),), ((("o",), 1),)))
        self.assertEqual(lot_paper(book=MAY, sayings=[MAY_P]), ("two", (("p", 0), (MAY_P, 0)), (("p", 0), (MAY_P, 1))))
        self.assertEqual(lot_paper(LOGIC, [("most", "p", ("and", "p", "q"), ("no", "q"))]), ("one",))

    def test_wrong(self):
        for value in JUNK:
            if not isinstance(value, Book):
                self.wrong(InvalidBook, {"at": -1}, lot_paper, value, None)
        for value in (None, 5, "pq", EMPTY, True):
            self.wrong(InvalidSaying, {"at": -1}, lot_paper, HARD, value)
        for value in NO_SAYINGS + (("or", "p", "p"), ("and", "p")):
            self.wrong(InvalidSaying, {"at": 1}, lot_paper, HARD, ["p", value, value])
        self.wrong(NotCalm, {"right": 3, "left": 2, "row": (1,)}, lot_paper, HARD, ())
        self.wrong(NotCalm, {"right": 1, "left": 0, "row": (1, 0)}, lot_paper, put_rules(TONK, ()), ["p"])


if __name__ == "__main__":
    unittest.main()

"""[47]: a writing put for its maker everywhere, and which sheets then have proofs."""

import random
import unittest

from saymakers.books import Book, read_book
from saymakers.errors import InvalidBook, InvalidSaying, InvalidSheet, InvalidSize, NoMaker, NotCalm, Refused
from saymakers.judge import sheet_paper
from saymakers.made import writing_paper
from saymakers.proofs import need_proof
from saymakers.tables import told_book
from saymakers.unfolded import like_unfolded, unfold_holds, unfold_paper, unfold_saying, unfold_sheet
from tests.some_proofs import names_of
from tests.test_judge import NO_SHEETS
from tests.test_made import HALF, OPEN, letters_of, some_cases, table_of
from tests.test_sayings import DEEP, NO_SAYINGS, wide
from tests.test_worlds import closed, right_world
from tests.tools import (
    AND, EMPTY, JUNK, LOGIC, TONK, Wrong, changed, end_sheet, is_all_tuples, is_kept, is_same, listed, parts, sheet_of)

# "dna" is written by "and", "may" is open.
DNA = read_book("maker and 2\nright and: | 1; | 2\nleft and: 1 2 |\nmaker dna 2\nright dna: | 1; | 2\nleft dna: 1 2 |\n"
                "maker may 1\nright may: | 1\nmaker any 0\nmaker no 1\nright no: 1 |\nleft no: | 1\nmaker one 0\nright one:")
BACK = ("and", "b", "a")
TWO, OWT = ("dna", "p", "q"), ("and", "q", "p")
MIXED = Book(TONK.makers + (("not", 1),), TONK.rules)
TRIPLE = Book(LOGIC.makers + (("t", 3),), LOGIC.rules)


def put(name, writing, letters, saying):
    """The saying unfolded, reckoned here."""
    if isinstance(saying, str):
        return saying
    kids = tuple(put(name, writing, letters, part) for part in saying[1:])
    if saying[0] != name:
        return (saying[0],) + kids

    def fill(part):
        if isinstance(part, str):
            return dict(zip(letters, kids)).get(part, part)
        return (part[0],) + tuple(map(fill, part[1:]))
    return fill(writing)


def unfolded(book, name, writing, sheet):
    """The sheet unfolded, reckoned here."""
    return sheet_of(*[[put(name, writing, letters_of(book, name), saying) for saying in side] for side in sheet])


def alike(book, name, writing, sheet):
    """All two unlike parts of the sheet, of one open maker, another one, that unfold alike, the first ones first."""
    every = closed(sheet[0] + sheet[1])
    letters = letters_of(book, name)
    return [(one, other) for at, one in enumerate(every) for other in every[at + 1:]
            if not isinstance(one, str) and one[0] == other[0] != name and None in table_of(book, one[0])
            and put(name, writing, letters, one) == put(name, writing, letters, other)]


def proves(book, sheet, value):
    """Whether the value is a proof of the sheet."""
    try:
        need_proof(book, value)
    except Exception:
        return False
    return end_sheet(book, value) == sheet


def breaks(book, sheet, value):
    """Whether the value is a world with the sheet's sayings that does not keep it."""
    return right_world(book, value) and set(sheet[0] + sheet[1]) <= set(dict(value)) and not is_kept(dict(value), *sheet)


def right_paper(book, name, writing, sheet, value):
    """Whether the value is a paper, reckoned here."""
    if type(value) is not tuple or not value or not is_all_tuples(value):
        return False
    other = unfolded(book, name, writing, sheet)
    if value[0] == "both" and len(value) == 3:
        return proves(book, sheet, value[1]) and proves(book, other, value[2])
    if value[0] == "neither" and len(value) == 3:
        return breaks(book, sheet, value[1]) and breaks(book, other, value[2])
    return (value[0] == "unfolded" and len(value) == 4 and proves(book, other, value[1]) and breaks(book, sheet, value[2])
            and type(value[3]) is tuple and (value[3] in alike(book, name, writing, sheet)
                                             or value[3][::-1] in alike(book, name, writing, sheet)))


def saying_in(rng, makers, deep):
    """Some saying of the makers on letters."""
    if not deep or rng.random() < 0.3:
        return rng.choice("pqa")
    name, places = rng.choice(makers)
    return (name,) + tuple(saying_in(rng, makers, deep - 1) for _ in range(places))


def some_sheets(seed, many, most=7):
    """(book, maker, writing, sheet) of written makers; makers stand within one another, many parts unfold alike."""
    rng = random.Random(seed)
    own = [(book, name, writing) for book, name, writing in some_cases(seed, 80)
           if writing_paper(book, name, writing)[0] == "written"]
    own += [(DNA, "dna", BACK)] * 20 + [(HALF, "not", ("imp", "a", ("bot",))), (HALF, "bot", ("zero", "a")), (OPEN, "id", "a")] * 4
    while many:
        book, name, writing = rng.choice(own)
        near = [maker for maker in book.makers if maker[0] == name or rng.random() < 0.6]
        sayings = [saying_in(rng, near, rng.choice((1, 2, 2))) for _ in range(rng.randint(1, 3))]
        if rng.random() < 0.5:
            # Two sayings of one maker, the one unfolded further within.
            gaps = [each for each in book.makers if each[1] and each[0] != name and None in table_of(book, each[0])]
            maker, places = rng.choice(gaps or book.makers)
            kids = [saying_in(rng, near, 1) for _ in range(places)]
            letters = letters_of(book, name)
            sayings = [(maker,) + tuple(kids), (maker,) + tuple(put(name, writing, letters, kid) for kid in kids)]
        sides = ([], [])
        for at, saying in enumerate(sayings):
            sides[(at + rng.randint(0, 1) * (rng.random() < 0.2)) % 2].append(saying)
        sheet = sheet_of(*sides)
        if max(len(closed(each[0] + each[1])) for each in (sheet, unfolded(book, name, writing, sheet))) <= most:
            many -= 1
            yield book, name, writing, sheet


class SayingsTest(Wrong, unittest.TestCase):
    def test_sayings_and_sheets(self):
        rng = random.Random(470)
        for book, name, writing in some_cases(471, 150):
            letters = letters_of(book, name)
            sayings = [saying_in(rng, book.makers, 3) for _ in range(3)]
            for saying in sayings:
                right = put(name, writing, letters, saying)
                self.assertTrue(is_same(unfold_saying(book, name, writing, saying), right))
                self.assertTrue(is_same(unfold_saying(book, name, listed(writing), listed(saying)), right))
                self.assertFalse(any(not isinstance(part, str) and part[0] == name for part in parts(right)))
            sheet = (tuple(sayings[:2]), tuple(sayings[1:]))
            self.assertTrue(is_same(unfold_sheet(book, name, writing, sheet), unfolded(book, name, writing, sheet)))
            self.assertTrue(is_same(unfold_sheet(book, name, writing, listed(sheet)), unfolded(book, name, writing, sheet)))

    def test_edges(self):
        self.assertEqual(unfold_saying(DNA, "dna", BACK, TWO), OWT)
        self.assertEqual(unfold_saying(DNA, "dna", BACK, ("dna", TWO, ("may", TWO))), ("and", ("may", OWT), OWT))
        self.assertEqual(unfold_saying(DNA, "dna", "a", TWO), "p")
        self.assertEqual(unfold_saying(DNA, "dna", "b", ("dna", "p", ("dna", "q", "r"))), "r")
        # Letters of the saying that have the names of the maker's are no places.
        self.assertEqual(unfold_saying(DNA, "dna", BACK, ("dna", "b", "a")), ("and", "a", "b"))
        self.assertEqual(unfold_saying(DNA, "dna", BACK, ("dna", ("dna", "b", "a"), "a")), ("and", "a", ("and", "a", "b")))
        # A maker of no places, with its one letter and without.
        self.assertEqual(unfold_saying(HALF, "bot", ("zero", "a"), ("not", ("bot",))), ("not", ("zero", "a")))
        self.assertEqual(unfold_saying(DNA, "one", ("any",), ("may", ("one",))), ("may", ("any",)))
        self.assertEqual(unfold_sheet(DNA, "dna", BACK, ((TWO, OWT), (TWO, "p"))), ((OWT,), ("p", OWT)))
        self.assertEqual(unfold_sheet(DNA, "dna", BACK, ((), ())), ((), ()))
        # Any writing is put, a right one or not; nothing is asked of rows and sizes.
        self.assertEqual(unfold_saying(OPEN, "may", ("any", "a", "a"), ("may", ("may", "p"))), (
            "any", ("any", "p", "p"), ("any", "p", "p")))
        chain = "a"
        for _ in range(25):
            chain = ("no", chain)
        self.assertEqual(unfold_saying(DNA, "may", chain, ("may", "p")), put("may", chain, "a", ("may", "p")))

    def test_signs(self):
        # Four hundred names and thirty makers one within another, and beyond.
        deep = "p"
        for _ in range(15):
            deep = ("may", deep)
        twice = ("no", ("no", "a"))
        found = unfold_saying(DNA, "may", twice, deep)
        self.assertEqual(names_of(found), 31)
        for call, thing in ((unfold_saying, ("no", deep)), (unfold_sheet, ((), (("no", deep),))), (like_unfolded, ((deep,), (("no", deep),)))):
            self.wrong(InvalidSize, {"word": "signs"}, call, DNA, "may", twice, thing)
        self.assertEqual(len(unfold_sheet(DNA, "may", twice, ((deep,), ()))[0]), 1)
        self.assertIsNone(like_unfolded(DNA, "may", twice, ((deep,), ())))
        names = wide(199)
        makers = TRIPLE.makers + (("w", 3), ("m", 2), ("n", 1), ("d", 1))
        book = Book(makers, TRIPLE.rules)
        self.assertEqual(names_of(unfold_saying(book, "d", ("m", "a", "a"), ("d", names))), 399)
        self.assertEqual(names_of(unfold_saying(book, "d", ("n", ("m", "a", "a")), ("d", names))), 400)
        self.wrong(InvalidSize, {"word": "signs"}, unfold_saying, book, "d", ("n", ("n", ("m", "a", "a"))), ("d", names))
        self.wrong(InvalidSize, {"word": "signs"}, unfold_saying, book, "d", ("m", "a", "a"), ("d", ("d", names)))

    def test_makers_within_themselves(self):
        # Twice as many names with each step: reckoned without being made.
        deep = "p"
        for _ in range(30):
            deep = ("no", deep)
        self.wrong(InvalidSize, {"word": "signs"}, unfold_saying, LOGIC, "no", ("if", "a", "a"), deep)
        for call, more in ((unfold_paper, ()), (unfold_holds, (5,))):
            self.wrong(InvalidSize, {"word": "signs"}, call, LOGIC, "no", ("if", "a", "a"), ((deep,), ()), *more)
        # What the writing leaves out may be as great as it likes.
        book = Book(LOGIC.makers + (("t", 3),), LOGIC.rules)
        left = "p"
        for _ in range(28):
            left = ("t", "p", left, "q")
        self.assertEqual(unfold_saying(book, "t", ("and", "c", "c"), left), ("and", "q", "q"))
        great = ("and", "b", ("or", "b", "b"))
        self.assertEqual(like_unfolded(book, "t", great, ((("so", ("t", "r", "p", "q")),), (("so", ("t", "q", "p", "p")),))),
                         (("so", ("t", "q", "p", "p")), ("so", ("t", "r", "p", "q"))))
        dropped = ("m", ("so", left), "p")
        more = Book(book.makers + (("m", 2),), book.rules)
        self.assertEqual(unfold_saying(more, "m", "b", dropped), "p")
        self.assertIsNone(like_unfolded(more, "m", "b", ((dropped,), ())))

    def test_wrong(self):
        for call, more in ((unfold_saying, ()), (unfold_sheet, ()), (like_unfolded, ()), (unfold_paper, ()), (unfold_holds, (5,))):
            for value in JUNK[:12]:
                self.wrong(InvalidBook, {"at": -1}, call, value, "x", 5, 5, *more)
            for name in (None, 5, "", "x", "Not", True, ("not",), ["not"], EMPTY):
                self.wrong(NoMaker, {"name": name}, call, MIXED, name, 5, 5, *more)
            for writing in NO_SAYINGS + (("not", "a"), "b", ("tonk", "a", "b"), ("not", ("tonk", "a", "a")), DEEP):
                self.wrong(InvalidSaying, {"at": 0}, call, MIXED, "not", writing, 5, *more)
            self.wrong(NotCalm, {"right": 1, "left": 0, "row": (1, 0)}, call, MIXED, "not", "a",
                       "p" if call is unfold_saying else (("p",), ()), *more)
            deep = DEEP
            if call is not unfold_saying:
                for sheet in NO_SHEETS:
                    self.wrong(InvalidSheet, {"at": -1}, call, MIXED, "not", "a", sheet, *more)
                deep = ((DEEP,), ())
            calm = Book([("no", 1), ("m", 2), ("tonk", 2)], TONK.rules)
            self.wrong(NotCalm, {"right": 1, "left": 0, "row": (1, 0)}, call, calm, "no", ("m", "a", "a"), deep, *more)
        for saying in NO_SAYINGS + (("x", "p"), ("tonk", "p")):
            self.wrong(InvalidSaying, {"at": 1}, unfold_saying, MIXED, "not", "a", saying)


class AlikeTest(unittest.TestCase):
    def test_like_unfolded(self):
        met = 0
        for book, name, writing, sheet in some_sheets(472, 400):
            found = alike(book, name, writing, sheet)
            told = like_unfolded(book, name, writing, sheet)
            self.assertTrue(is_same(told, found[0] if found else None), (book.rules, name, writing, sheet))
            self.assertTrue(is_same(told, like_unfolded(book, name, listed(writing), listed(sheet))))
            met += bool(found)
        self.assertGreater(met, 20)

    def test_edges(self):
        one, other = ("may", TWO), ("may", OWT)
        self.assertEqual(like_unfolded(DNA, "dna", BACK, ((one,), (other,))), (other, one))
        self.assertIsNone(like_unfolded(DNA, "dna", BACK, ((TWO,), (OWT,))))
        self.assertIsNone(like_unfolded(DNA, "dna", BACK, ((("no", TWO),), (("no", OWT),))))
        self.assertIsNone(like_unfolded(DNA, "dna", BACK, ((one,), (("no", OWT),))))
        # Of the maker itself none are told, though it be open.
        self.assertIsNone(like_unfolded(OPEN, "may", ("can", "a"), ((("may", "p"),), (("can", "p"),))))
        third = ("may", ("dna", "q", "p"))
        self.assertEqual(like_unfolded(DNA, "dna", BACK, ((one, third), (other, ("may", ("and", "p", "q"))))),
                         (("may", ("and", "p", "q")), third))


class PapersTest(Wrong, unittest.TestCase):
    def test_just_one_of_three(self):
        met = {}
        for book, name, writing, sheet in some_sheets(473, 500):
            paper = unfold_paper(book, name, writing, sheet)
            self.assertTrue(is_all_tuples(paper))
            self.assertTrue(is_same(paper, unfold_paper(book, name, listed(writing), listed(sheet))))
            self.assertTrue(right_paper(book, name, writing, sheet, paper), (book.rules, name, writing, sheet, paper))
            self.assertIs(unfold_holds(book, name, writing, sheet, paper), True)
            self.assertIs(unfold_holds(book, name, listed(writing), listed(sheet), paper), True)
            had = [sheet_paper(book, each)[0] == "proof" for each in (sheet, unfolded(book, name, writing, sheet))]
            self.assertEqual(had, {"both": [True, True], "neither": [False, False], "unfolded": [False, True]}[paper[0]])
            if paper[0] == "unfolded":
                self.assertEqual(paper[3], alike(book, name, writing, sheet)[0])
            met[paper[0]] = met.get(paper[0], 0) + 1
        self.assertGreater(min(met.values()), 20, met)
        self.assertEqual(len(met), 3)

    def test_edges(self):
        self.assertEqual(unfold_paper(DNA, "dna", BACK, ((TWO,), (OWT,)))[0], "both")
        self.assertEqual(unfold_paper(DNA, "dna", BACK, ((TWO,), ("r",)))[0], "neither")
        paper = unfold_paper(DNA, "dna", BACK, ((("may", TWO),), (("may", OWT),)))
        self.assertEqual(paper[0], "unfolded")
        self.assertEqual(paper[3], (("may", OWT), ("may", TWO)))
        self.assertIs(unfold_holds(DNA, "dna", BACK, ((("may", TWO),), (("may", OWT),)), paper[:3] + (paper[3][::-1],)), True)
        self.assertEqual(unfold_paper(HALF, "bot", ("zero", "a"), ((("bot",),), ()))[0], "both")
        self.assertEqual(unfold_paper(OPEN, "id", "a", ((("may", ("id", "p")),), (("may", "p"),)))[0], "unfolded")

    def test_any_values(self):
        for sheet in (((TWO,), (OWT,)), ((TWO,), ("r",)), ((("may", TWO),), (("may", OWT),)), ((), ())):
            paper = unfold_paper(DNA, "dna", BACK, sheet)
            for value in list(JUNK) + list(changed(paper))[:250] + [("both",), ("neither", (), ()), paper[:-1], paper + paper[1:]]:
                self.assertIs(unfold_holds(DNA, "dna", BACK, sheet, value), right_paper(DNA, "dna", BACK, sheet, value), value)
        sheet = ((("may", TWO), ("may", ("dna", "q", "p"))), (("may", OWT), ("may", ("and", "p", "q"))))
        paper = unfold_paper(DNA, "dna", BACK, sheet)
        every = closed(sheet[0] + sheet[1])
        for one in every:
            for other in every:
                value = paper[:3] + ((one, other),)
                self.assertIs(unfold_holds(DNA, "dna", BACK, sheet, value), right_paper(DNA, "dna", BACK, sheet, value))
        for pair in ((sheet[0][0],) * 2, [sheet[0][0], sheet[1][0]], (list(sheet[0][0]), sheet[1][0]), (("may", "z"), ("may", "y")),
                     ("p", "q"), (TWO, OWT), None, 5, ((), ()), (EMPTY, EMPTY)):
            self.assertIs(unfold_holds(DNA, "dna", BACK, sheet, paper[:3] + (pair,)), False)

    def test_any_two_parts_of_one_open_maker(self):
        zero = read_book("maker half 1\nleft half: | 1\nmaker top 0\nright top:\nmaker zero 0\nleft zero:\nmaker and 2\n"
                         "right and: | 1; | 2\nleft and: 1 2 |")
        top = ("half", ("top",))
        deep = ("dna", TWO, "pq")
        cases = (
            # Sayings of whole makers that unfold alike, and of the maker itself.
            (DNA, "dna", BACK, ((("may", TWO), ("no", TWO), ("no", OWT)), (("may", OWT),)), ((("no", TWO), ("no", OWT)), (TWO, OWT))),
            (DNA, "dna", BACK, sheet_of([("may", deep), ("may", ("dna", OWT, "pq"))], [("may", ("and", "pq", OWT)), "p"]),
             ((("may", deep), ("may", ("and", "pq", TWO))), (("may", ("and", "pq", TWO)), ("may", deep)), ("p", "pq"), ("pq", "p"),
              (deep, ("dna", OWT, "pq")), (("may", "p"), ("may", "pq")))),
            # An open maker's saying and one of the maker that is written by it.
            (zero, "zero", top, ((("half", ("and", ("zero",), "p")),), (("half", ("and", top, "p")),)), (
                (("zero",), top), (top, ("zero",)), (("and", ("zero",), "p"), ("and", top, "p")))))
        for book, name, writing, sheet, wrong in cases:
            paper = unfold_paper(book, name, writing, sheet)
            self.assertEqual(paper[0], "unfolded")
            every = closed(sheet[0] + sheet[1])
            for pair in [(one, other) for one in every for other in every] + list(wrong):
                right = right_paper(book, name, writing, sheet, paper[:3] + (pair,))
                self.assertIs(unfold_holds(book, name, writing, sheet, paper[:3] + (pair,)), right, pair)
                self.assertFalse(pair in wrong and right)
            for pair in (paper[3] + paper[3][:1], paper[3][:1], "pq", list(paper[3])):
                self.assertIs(unfold_holds(book, name, writing, sheet, paper[:3] + (pair,)), False)

    def test_any_proofs_and_worlds(self):
        sheet = ((TWO,), (OWT,))
        both = unfold_paper(DNA, "dna", BACK, sheet)
        thin = ("thin", ((TWO,), ()), both[1])
        join = ("join", OWT, both[1], ("start", OWT))
        for proof in (thin, join):
            self.assertIs(unfold_holds(DNA, "dna", BACK, sheet, ("both", proof, both[2])), True)
        self.assertIs(unfold_holds(DNA, "dna", BACK, sheet, ("both", both[2], both[1])), False)
        neither = unfold_paper(DNA, "dna", BACK, ((TWO,), ("r",)))
        more = tuple(sorted(neither[1][:3] + (("z", 1),))) + neither[1][3:]
        self.assertTrue(right_world(DNA, more))
        self.assertIs(unfold_holds(DNA, "dna", BACK, ((TWO,), ("r",)), ("neither", more, neither[2])), True)

    def test_what_has_a_proof_has_one_unfolded(self):
        for book, name, writing, sheet in some_sheets(474, 200):
            other = unfolded(book, name, writing, sheet)
            if sheet_paper(book, sheet)[0] == "proof":
                self.assertEqual(sheet_paper(book, other)[0], "proof")
            elif sheet_paper(book, other)[0] == "proof":
                self.assertTrue(alike(book, name, writing, sheet))

    def test_sizes(self):
        chain = "p"
        for _ in range(13):
            chain = ("no", chain)
        self.assertEqual(len(closed((chain,))), 14)
        self.assertEqual(unfold_paper(DNA, "dna", BACK, ((chain,), ()))[0], "neither")
        for call, more in ((unfold_paper, ()), (unfold_holds, (5,))):
            self.wrong(InvalidSize, {"word": "sayings"}, call, DNA, "dna", BACK, ((chain,), ("q",)), *more)
            # The unfolded sheet alone is too great; saying and writing together are.
            single = Book(DNA.makers + (("on", 1),), DNA.rules + (("on", "right", [((1,), ())]), ("on", "left", [((), (1,))])))
            three = ("no", ("no", ("no", "a")))
            deep = "p"
            for _ in range(5):
                deep = ("on", deep)
            self.wrong(InvalidSize, {"word": "sayings"}, call, single, "on", three, ((deep,), ()), *more)
            self.wrong(InvalidSize, {"word": "sayings"}, call, DNA, "may", ("no", put_letter(chain)), (("p",), ()), *more)
            # No writing, which is told last.
            self.wrong(Refused, {"at": -1}, call, DNA, "dna", "a", ((TWO,), ()), *more)
            self.wrong(Refused, {"at": -1}, call, OPEN, "may", "a", (("p",), ("p",)), *more)
            self.wrong(Refused, {"at": -1}, call, HALF, "zero", ("half", ("or", "a", ("half", "a"))), (("p",), ("p",)), *more)
            self.wrong(InvalidSize, {"word": "sayings"}, call, DNA, "dna", "a", ((chain,), ("q",)), *more)
        self.assertEqual(unfold_sheet(DNA, "dna", BACK, ((chain,), ("q",))), ((chain,), ("q",)))

    def test_many_open_rows(self):
        # Rows are not counted here.
        book = told_book([("m", 3, (None,) * 8), ("id", 1, (0, 1)), ("n", 2, (None,) * 4)])
        self.assertEqual(writing_paper(book, "id", "a")[0], "written")
        sheet = ((("m", "p", "q", ("id", "p")),), (("m", "p", "q", "p"),))
        self.assertEqual(unfold_paper(book, "id", "a", sheet)[0], "unfolded")


def put_letter(saying):
    """The saying with the letter a in place of its own."""
    return "a" if isinstance(saying, str) else (saying[0],) + tuple(map(put_letter, saying[1:]))


if __name__ == "__main__":
    unittest.main()

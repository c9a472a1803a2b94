"""[21] and [22], and what [20] says of partings: sheets judged by proofs, worlds and even truths."""

import itertools
import random
import unittest

from saymakers.books import Book, put_rules, read_book
from saymakers.court import is_calm, nonsense_proof
from saymakers.errors import InvalidBook, InvalidSheet, InvalidSize
from saymakers.judge import fewest_uses, sheet_holds, sheet_paper
from saymakers.proofs import need_proof
from tests.some_proofs import names_of, random_saying
from tests.test_sayings import DEEP
from tests.test_worlds import closed, right_world
from tests.tools import (
    AND, EMPTY, JUNK, LOGIC, MAY, NO, TONK, XOR, Wrong, all_parts, all_worlds, calm_by_tables, changed, end_of, end_sheet,
    height_of, is_all_tuples, is_kept, is_same, kids_of, listed, lots, parts, provable, random_book, rows, sheet_of,
    tells, words_of)

BOTH = read_book("maker top 0\nright top:\nleft top:")
NO_SHEETS = (None, 5, "p | q", (), ("p",), ((), (), ()), ((), ("P",)), (("p",), 5), EMPTY, ((), (("or", "p", "q"),)),
             ((("and", "p"),), ()), [[], [["and", "p", ["and", "q"]]]], ((True,), ()))

FORTY = ("w", ("w", ("w", "p", "p", "p"),) + (("w", "p", "p", "p"),) * 2,) + (("w",) + (("w", "p", "p", "p"),) * 3,) * 2
SIXTY = ("n", ("n", ("w", FORTY, FORTY[1], FORTY[1][1])))


def some_sheets(seed, many, most, **more):
    """(book, sheet) with at most so many sayings and parts, at random."""
    rng = random.Random(seed)
    while many:
        book = random_book(rng, **more)
        lot = closed([random_saying(rng, book, rng.choice((1, 2, 2))) for _ in range(rng.randint(0, 4))])
        if len(lot) > most:
            continue
        sides = ([], [])
        for saying in lot:
            if rng.random() < 0.6:
                sides[rng.random() < 0.5].append(saying)
            if rng.random() < 0.03:
                sides[0].append(saying)
        many -= 1
        yield book, sheet_of(*sides)


def said(sheet):
    """All parts of the sheet's sayings, in order."""
    return closed(sheet[0] + sheet[1])


def breaking(book, sheet):
    """The worlds of the sheet's sayings and parts that do not keep it, as tuples, the first ones first."""
    return [tuple(world.items()) for world in all_worlds(book, said(sheet)) if not is_kept(world, *sheet)]


def bars(book, sheet):
    """The even truths that bar the sheet, reckoned by the worlds in which all sayings are alike."""
    found = []
    for truth in (0, 1):
        even = not any(1 - truth in tells(book, name, (truth,) * places) for name, places in book.makers)
        if even and all(truth == 1 for _ in sheet[0]) and all(truth == 0 for _ in sheet[1]):
            found.append(truth)
    return found


def right_paper(book, sheet, value):
    """Whether the value is a paper, reckoned here."""
    if type(value) is not tuple or len(value) != 2 or not is_all_tuples(value):
        return False
    word, what = value
    if word == "proof":
        try:
            need_proof(book, what)
        except Exception:
            return False
        return end_sheet(book, what) == sheet
    if word == "world":
        return (calm_by_tables(book) and right_world(book, what)
                and set(sheet[0] + sheet[1]) <= set(dict(what)) and not is_kept(dict(what), *sheet))
    return word == "even" and not calm_by_tables(book) and type(what) is int and what in bars(book, sheet)


class PapersTest(Wrong, unittest.TestCase):
    def check(self, book, sheet):
        paper = sheet_paper(book, sheet)
        self.assertTrue(is_all_tuples(paper))
        self.assertTrue(right_paper(book, sheet, paper), (book.rules, sheet, paper))
        self.assertIs(sheet_holds(book, sheet, paper), True)
        if paper[0] == "proof" and calm_by_tables(book):
            self.assertNotIn("join", words_of(paper[1]))
            self.assertLessEqual(height_of(paper[1]), 2 * len(said(sheet)))
            for part in all_parts(paper[1]):
                self.assertLessEqual(set().union(*end_of(book, part)), set(said(sheet)))
        return paper

    def test_calm_books_by_their_worlds(self):
        found = set()
        for book, sheet in some_sheets(201, 500, 8, rules=6, calm=True):
            paper = self.check(book, sheet)
            against = breaking(book, sheet)
            self.assertEqual(paper[0], "world" if against else "proof")
            if against:
                self.assertEqual(paper, ("world", against[0]))
            found.add((paper[0], bool(sheet[0]), bool(sheet[1])))
        self.assertGreaterEqual(len(found), 7)

    def test_books_that_are_not_calm(self):
        found = set()
        for book, sheet in some_sheets(202, 500, 8, calm=False):
            paper = self.check(book, sheet)
            against = bars(book, sheet)
            self.assertEqual(paper[0], "even" if against else "proof")
            if against:
                self.assertEqual(paper[1], against[0])
            else:
                self.assertLessEqual(words_of(paper[1]).count("rule"), 6)
                self.assertLessEqual(words_of(paper[1]).count("join"), 5)
            found.add((paper[0], bool(sheet[0]), bool(sheet[1])))
        self.assertEqual(len(found), 7)

    def test_edges(self):
        self.assertEqual(sheet_paper(EMPTY, ((), ())), ("world", ()))
        self.assertEqual(sheet_paper(AND, ((), ())), ("world", ()))
        self.assertEqual(sheet_paper(TONK, ((), ())), ("even", 0))
        self.assertEqual(sheet_paper(TONK, (("p",), ())), ("even", 1))
        self.assertEqual(sheet_paper(TONK, ((), ("p",))), ("even", 0))
        self.assertEqual(sheet_paper(BOTH, ((), ()))[0], "proof")
        self.assertEqual(end_sheet(BOTH, sheet_paper(BOTH, ((), ()))[1]), ((), ()))
        self.assertEqual(sheet_paper(EMPTY, (("p",), ("p",))), ("proof", ("start", "p")))
        self.assertEqual(sheet_paper(TONK, (["p"], ["p"])), ("proof", ("start", "p")))
        self.assertEqual(sheet_paper(TONK, (("p", "q"), ("p", "q")))[0], "proof")
        self.assertEqual(end_sheet(TONK, sheet_paper(TONK, (("p", "q"), ("p", "q")))[1]), (("p", "q"), ("p", "q")))
        self.assertEqual(sheet_paper(EMPTY, (("p", "q"), ("r",))), ("world", (("p", 1), ("q", 1), ("r", 0))))
        self.assertEqual(sheet_paper(LOGIC, ((), (("top",),)))[0], "proof")
        self.assertEqual(sheet_paper(LOGIC, ((("top",),), ())), ("world", ((("top",), 1),)))
        whole = ("and", "p", "q")
        self.assertEqual(end_sheet(AND, sheet_paper(AND, ((whole, whole, "s"), ("s", whole)))[1]),
                         (("s", whole), ("s", whole)))
        self.assertEqual(sheet_paper(book=NO, sheet=[["q"], [["no", ["no", "q"]]]])[0], "proof")

    def test_letters_with_names_of_makers(self):
        book = read_book("maker p 1\nright p:\nmaker q 0\nleft q:\nmaker pp 1\nright pp: | 1\nleft pp: 1 |")
        for sheet, word in ((((), ("p",)), "world"), ((("q",), ()), "world"), (((), (("p", "p"),)), "proof"),
                            ((("q",), ("p",)), "world"), (((("q",),), ()), "proof"), (((("pp", "pp"),), ("pp",)), "proof"),
                            ((("pp",), ("p",)), "world")):
            self.assertEqual(sheet_paper(book, sheet)[0], word)
            self.check(book, sheet)
            self.assertEqual(fewest_uses(book, sheet) is None, word == "world")

    def test_great_sayings_in_books_that_are_not_calm(self):
        """Sixty names are let: the rules' sayings of the proofs must not get too great for that."""
        self.assertEqual((names_of(SIXTY), len(parts(SIXTY))), (60, 7))
        makers = [("m", 2), ("n", 1), ("w", 3)]
        clash = [("w", "right", [((1,), (2, 3)), ((2,), (1, 3)), ((3,), (1, 2))]), ("w", "left", [((1, 2, 3), ())])]
        for book in (Book(makers, clash), Book(makers, clash + [("w", "right", [((1,), ())]), ("w", "left", [((), (3,))])]),
                     Book(makers, [("w", "right", []), ("w", "left", [])])):
            self.assertFalse(is_calm(book))
            for left, right in itertools.product(((), (SIXTY,), ("q", SIXTY)), ((), (SIXTY,), ("p", SIXTY), ("q",))):
                self.check(book, (left, right))
            for sheet in (((("n", SIXTY),), ("q",)), ((), (("n", SIXTY),)), (("q",), ("q", ("n", SIXTY)))):
                self.wrong(InvalidSize, {"word": "sayings"}, sheet_paper, book, sheet)
                self.assertIs(sheet_holds(book, sheet, None), False)
        calm = Book(makers, clash[:1])
        self.assertEqual(sheet_paper(calm, ((("n", SIXTY),), ("q",)))[0], "world")
        self.assertEqual(sheet_paper(calm, ((("n", SIXTY),), ("q", ("n", SIXTY))))[0], "proof")

    def test_other_values(self):
        values = list(JUNK) + [("proof", value) for value in JUNK] + [("world", value) for value in JUNK] + [
            ("even", value) for value in JUNK] + [("even", 0, 0), ("even",), ("proof",), (("even", 0),)]
        for book, sheet in itertools.chain(some_sheets(203, 40, 5, rules=4, premises=2), [
                (TONK, ((), ())), (TONK, (("p",), ())), (AND, ((), ())), (AND, (("p",), ("p",)))]):
            paper = sheet_paper(book, sheet)
            for value in values + list(changed(paper)) + [listed(paper)]:
                self.assertIs(sheet_holds(book, sheet, value), right_paper(book, sheet, value), (book.rules, sheet, value))

    def test_any_proof_is_taken(self):
        p, q = ("start", "p"), ("start", "q")
        for value in (p, ("thin", ((), ()), p), ("join", "p", p, p), ("join", "q", ("thin", ((), ("q",)), p), (
                "thin", (("q",), ()), p)), ("join", ("and", "p", "p"), ("rule", 1, ("p", "p"), (p, p)), (
                    "rule", 0, ("p", "p"), (p,)))):
            self.assertIs(sheet_holds(AND, (("p",), ("p",)), ("proof", value)), True)
            self.assertIs(sheet_holds(AND, (["p"], ["p"]), ("proof", listed(value))), False)
            self.assertIs(sheet_holds(AND, (("p", "q"), ("p",)), ("proof", value)), False)
        self.assertIs(sheet_holds(AND, (("p",), ("q",)), ("proof", q)), False)
        self.assertIs(sheet_holds(AND, (("p",), ("p",)), ("proof", ("told", 0))), False)
        proof = nonsense_proof(TONK, "p", "q")
        self.assertIs(sheet_holds(TONK, (("p",), ("q",)), ("proof", proof)), True)
        self.assertIs(sheet_holds(AND, (("p",), ("q",)), ("proof", proof)), False)

    def test_any_world_is_taken(self):
        sheet = ((("may", "p"),), ("p",))
        for world, right in (
                ((("p", 0), (("may", "p"), 1)), True), ((("p", 0), ("q", 1), (("may", "p"), 1)), True),
                ((("p", 0), ("q", 1), (("may", "p"), 1), (("may", "q"), 1)), True), ((("p", 0),), False),
                ((("p", 0), (("may", "p"), 0)), False), ((("p", 1), (("may", "p"), 1)), False),
                (((("may", "p"), 1),), False), ((("p", 0), ("q", 1), (("may", "p"), 1), (("may", "q"), 0)), False),
                (((("may", "p"), 1), ("p", 0)), False), ([("p", 0), (("may", "p"), 1)], False),
                ((("p", 0), (("may", "p"), True)), False)):
            self.assertIs(sheet_holds(MAY, sheet, ("world", world)), right, world)
        self.assertIs(sheet_holds(TONK, (("p",), ("q",)), ("world", (("p", 1), ("q", 0)))), False)
        self.assertIs(sheet_holds(TONK, ((), ()), ("world", ())), False)
        self.assertIs(sheet_holds(EMPTY, ((), ()), ("world", ())), True)

    def test_any_even_truth_is_taken(self):
        for sheet, right in ((((), ()), (True, True)), ((("p",), ()), (False, True)), (((), ("p",)), (True, False)),
                             ((("p",), ("q",)), (False, False))):
            for truth in (0, 1):
                self.assertIs(sheet_holds(TONK, sheet, ("even", truth)), right[truth])
                self.assertIs(sheet_holds(AND, sheet, ("even", truth)), False)
                self.assertIs(sheet_holds(BOTH, sheet, ("even", truth)), False)
                self.assertIs(sheet_holds(TONK, sheet, ("even", bool(truth))), False)

    def test_no_step_back(self):
        """Some rule's filled premises are all kept and all greater; from whichever one comes to a proof."""
        tried = 0
        for book, sheet in some_sheets(204, 400, 6, rules=6, calm=True):
            if breaking(book, sheet) or set(sheet[0]) & set(sheet[1]):
                continue
            steps = []
            for whole in sheet[0] + sheet[1]:
                for name, side, premises in book.rules:
                    if isinstance(whole, str) or name != whole[0] or whole not in sheet[side == "right"]:
                        continue
                    filled = [tuple(sheet_of(own + tuple(whole[k] for k in left), other + tuple(whole[k] for k in right)))
                              for left, right in premises for own, other in [sheet]]
                    if sheet not in filled:
                        steps.append(filled)
            self.assertTrue(steps)
            for filled in steps:
                for more in filled:
                    self.assertEqual(breaking(book, more), [])
                    self.check(book, more)
            tried += 1
        self.assertGreater(tried, 40)

    def test_wrong(self):
        for value in JUNK:
            if not isinstance(value, Book):
                for call, args in ((sheet_paper, (None,)), (sheet_holds, (None, None)), (fewest_uses, (None,))):
                    self.wrong(InvalidBook, {"at": -1}, call, value, *args)
        for sheet in NO_SHEETS:
            for book in (AND, put_rules(AND, [("and", "left", [])])):
                for call, args in ((sheet_paper, ()), (sheet_holds, (None,)), (fewest_uses, ())):
                    self.wrong(InvalidSheet, {"at": -1}, call, book, sheet, *args)

    def test_too_many(self):
        letters = list("abcdefghijklmno")
        self.assertEqual(sheet_paper(EMPTY, (letters[:14], []))[0], "world")
        self.assertEqual(sheet_paper(TONK, (letters[:7], letters[7:14]))[0], "proof")
        self.wrong(InvalidSize, {"word": "sayings"}, sheet_paper, EMPTY, (letters, []))
        self.wrong(InvalidSize, {"word": "sayings"}, sheet_paper, EMPTY, (letters, letters))
        self.wrong(InvalidSize, {"word": "sayings"}, sheet_paper, TONK, (letters, []))
        self.wrong(InvalidSize, {"word": "sayings"}, sheet_paper, NO, ([DEEP], []))
        deep = "p"
        for _ in range(13):
            deep = ("no", deep)
        self.assertEqual(sheet_paper(NO, ([deep], ["p"]))[0], "world")
        self.assertEqual(sheet_paper(NO, ([deep], []))[0], "world")
        self.wrong(InvalidSize, {"word": "sayings"}, sheet_paper, NO, ([("no", deep)], []))
        self.assertIs(sheet_holds(EMPTY, (letters, letters), None), False)
        self.assertEqual(fewest_uses(EMPTY, (letters[:8], letters[:8]))[0], 0)
        self.wrong(InvalidSize, {"word": "sayings"}, fewest_uses, EMPTY, (letters[:9], letters[:9]))
        self.wrong(InvalidSize, {"word": "sayings"}, fewest_uses, TONK, (letters[:9], letters[:9]))

    def test_fourteen_sayings(self):
        """Chains told by rows alone: the proofs must go through all truths of the letters."""
        odd = Book([("x", 3)], [("x", side, [(tuple(k for k in (1, 2, 3) if row[k - 1]),
                                              tuple(k for k in (1, 2, 3) if not row[k - 1]))
                                             for row in rows(3) if sum(row) % 2 != truth])
                                for truth, side in ((0, "left"), (1, "right"))])
        chain = ("x", "a", "b", ("x", "c", "d", ("x", "e", "f", "g")))
        back = ("x", "g", "f", ("x", "e", "d", ("x", "c", "b", "a")))
        self.assertEqual(len(said(((chain,), (back,)))), 13)
        paper = sheet_paper(odd, ((chain,), (back,)))
        self.assertEqual(end_sheet(odd, paper[1]), ((chain,), (back,)))
        self.assertIs(sheet_holds(odd, ((chain,), (back,)), paper), True)
        self.assertEqual(sheet_paper(odd, ((chain,), ()))[0], "world")
        many = put_rules(XOR, [("xor", "left", [((1, 2), ()), ((), (1, 2))])])
        self.assertEqual(sheet_paper(XOR, ((("xor", "p", ("xor", "q", "r")),), (("xor", ("xor", "r", "q"), "p"),)))[0], "proof")
        self.assertFalse(is_calm(many))


def uses_of(proof):
    """How many rules are used in the proof."""
    return (proof[0] == "rule") + sum(uses_of(kid) for kid in kids_of(proof))


def least_uses(book, lot):
    """The fewest uses for each sheet over the lot, worked down from no bound at all until nothing changes."""
    sides = [frozenset(side) for side in lots(lot)]
    uses = {(left, right): 0 if left & right else None for left in sides for right in sides}
    rules = [(whole, side, premises) for whole in lot if not isinstance(whole, str)
             for name, side, premises in book.rules if name == whole[0]]
    again = True
    while again:
        again = False
        for (left, right), best in uses.items():
            for whole, side, premises in rules:
                if whole not in (left if side == "left" else right):
                    continue
                needed = [uses[left | {whole[k] for k in more}, right | {whole[k] for k in too}] for more, too in premises]
                if None not in needed and (best is None or 1 + sum(needed) < best):
                    best = uses[left, right] = 1 + sum(needed)
                    again = True
    return uses


class UsesTest(Wrong, unittest.TestCase):
    def test_fewest_uses(self):
        some = 0
        rng = random.Random(205)
        inner = ("m", "p", "q")
        tried = [(random_book(rng, makers=[("m", 2), ("n", 1)], rules=8, premises=2), lot) for lot in (
            (inner, ("m", "q", "p")), (("m", inner, "p"),), (("m", inner, inner), "r"), (("n", inner),)) * 4]
        tried += [(XOR, (("xor", "p", "q"), ("xor", "q", "p"))), (LOGIC, (("and", "p", "q"), ("or", "q", "p"))),
                  (LOGIC, (("if", "p", ("if", "q", "p")),)), (AND, (("and", ("and", "p", "q"), "r"),))]
        for book, lot in tried:
            lot = closed(lot)
            for (left, right), least in least_uses(book, lot).items():
                if left & right and len(left) + len(right) > 3:
                    continue
                found = fewest_uses(book, sheet_of(left, right))
                self.assertEqual(None if found is None else found[0], least)
                if found is not None:
                    self.assertTrue(is_all_tuples(found))
                    self.assertEqual(end_sheet(book, found[1]), sheet_of(left, right))
                    self.assertEqual(uses_of(found[1]), least)
                    self.assertNotIn("join", words_of(found[1]))
                    some += least > 1
        self.assertGreater(some, 30)

    def test_more_sayings_never_make_it_greater(self):
        for book, sheet in some_sheets(206, 150, 6, rules=6):
            found = fewest_uses(book, sheet)
            for saying in said(sheet) + ("z",):
                for more in ((sheet[0] + (saying,), sheet[1]), (sheet[0], sheet[1] + (saying,))):
                    other = fewest_uses(book, more)
                    if found is not None:
                        self.assertLessEqual(other[0], found[0])

    def test_a_proof_exactly_if_the_calm_judge_says_so(self):
        for book, sheet in some_sheets(207, 150, 8, rules=6, calm=True):
            self.assertEqual(fewest_uses(book, sheet) is None, sheet_paper(book, sheet)[0] == "world")

    def test_edges(self):
        self.assertEqual(fewest_uses(EMPTY, (("p",), ("p",))), (0, ("start", "p")))
        self.assertEqual(fewest_uses(EMPTY, (("p", "q"), ("p",))), (0, ("thin", (("p", "q"), ("p",)), ("start", "p"))))
        self.assertIsNone(fewest_uses(EMPTY, ((), ())))
        self.assertIsNone(fewest_uses(TONK, (("p",), ("q",))))
        self.assertIsNone(fewest_uses(BOTH, ((), ())))
        self.assertEqual(fewest_uses(LOGIC, ((), (("top",),))), (1, ("rule", list(LOGIC.rules).index(("top", "right", ())),
                                                                         (), ())))
        self.assertEqual(fewest_uses(TONK, (("p",), (("tonk", "p", "q"),)))[0], 1)
        self.assertTrue(is_same(fewest_uses(AND, [["p", "q"], [["and", "q", "p"]]]),
                                fewest_uses(book=AND, sheet=(("q", "p"), (("and", "q", "p"),)))))

    def test_a_join_can_make_a_proof_shorter(self):
        """A lemma used once by a join where without joins its proof is needed in each branch."""
        book = read_book("maker two 2\nright two: | 1; | 1 2\nleft two: 1 |\nmaker no 1\nright no: 1 |\nleft no: | 1")
        lemma = ("no", ("no", ("no", ("no", "p"))))
        sheet = (("p",), (("two", lemma, "q"),))
        found = fewest_uses(book, sheet)

        number = {rule[:2]: at for at, rule in enumerate(book.rules)}
        proof = ("start", "p")
        for deep in range(4):
            side = "left" if deep % 2 == 0 else "right"
            whole = "p"
            for _ in range(deep):
                whole = ("no", whole)
            proof = ("rule", number["no", side], (whole,), (proof,))
        self.assertEqual(end_sheet(book, proof), (("p",), (lemma,)))
        start = ("start", lemma)
        said_two = ("rule", number["two", "right"], (lemma, "q"), (start, start))
        joined = ("join", lemma, proof, said_two)
        self.assertEqual(end_sheet(book, joined), sheet)
        self.assertLess(uses_of(joined), found[0])

    def test_eight_sayings(self):
        book = Book([("m", 2)], [("m", side, lot) for side, lot in (
            ("right", [((1,), (2,)), ((2,), (1,))]), ("right", [((1, 2), ()), ((), (1, 2))]), ("right", [((), (1,))]),
            ("right", [((), (2,))]), ("left", [((1,), ()), ((2,), ())]), ("left", [((1,), (2,))]), ("left", [((), (1,)), ((2,), ())]),
            ("right", [((1, 2), (1,)), ((2,), (2,))]))])
        lot = ["a", "b", ("m", "a", "b"), ("m", "b", "a"), ("m", "a", "a"), ("m", "b", "b"), ("m", ("m", "a", "b"), "a"),
               ("m", ("m", "b", "a"), "b")]
        for left in lots(lot[-3:]):
            found = fewest_uses(book, (left, [saying for saying in lot[2:] if saying not in left]))
            self.assertTrue(found is None or uses_of(found[1]) == found[0])


class PartingsTest(unittest.TestCase):
    def test_partings_without_a_proof_are_the_worlds(self):
        for book, sheet in some_sheets(208, 120, 5, rules=5):
            lot = said(sheet)
            worlds = [tuple(saying for saying in lot if world[saying]) for world in all_worlds(book, lot)]
            for left in lots(lot):
                found = fewest_uses(book, (left, [saying for saying in lot if saying not in left]))
                self.assertEqual(found is None, left in worlds)
                if found is not None:
                    self.assertEqual(found[0], 1)

    def test_calm_exactly_if_unproved_sheets_lie_within_unproved_partings(self):
        rng = random.Random(209)
        for _ in range(60):
            book = random_book(rng, makers=[("m", rng.choice((0, 1, 1, 2)))], rules=4, premises=2)
            name, places = book.makers[0]
            calm = True
            for row in rows(places):
                lot = closed([(name,) + tuple("qr"[truth] for truth in row)])
                partings = [set(left) for left in lots(lot) if fewest_uses(book, (left, [
                    saying for saying in lot if saying not in left])) is None]
                for left in lots(lot):
                    for right in lots([saying for saying in lot if saying not in left]):
                        if fewest_uses(book, (left, right)) is None:
                            calm = calm and any(set(left) <= parting and not set(right) & parting for parting in partings)
            self.assertIs(is_calm(book), calm)

    def test_proofs_without_joins_by_going_round(self):
        for book, sheet in some_sheets(210, 60, 4, rules=5, premises=2):
            done = provable(book, said(sheet), False)
            self.assertEqual(fewest_uses(book, sheet) is not None, (frozenset(sheet[0]), frozenset(sheet[1])) in done)


if __name__ == "__main__":
    unittest.main()

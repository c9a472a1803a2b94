"""[17] and [18]: joins are taken out, or two rules meet that don't clash."""

import random
import unittest

from saymakers.books import Book, read_book
from saymakers.court import bad_pairs, is_calm, nonsense_proof
from saymakers.detours import join_out, without_joins
from saymakers.errors import InvalidBook, InvalidProof, Refused
from saymakers.proofs import need_proof
from tests.some_proofs import Pool, random_proof
from tests.test_proofs import P, Q, no, some_proofs
from tests.tools import (
    AND, JUNK, LOGIC, NO, TONK, Wrong, all_parts, end_of, end_sheet, height_of, is_all_tuples, parts, random_book,
    random_books, tells, words_of, rows)

SILENT = ("thin", (("p",), ()), Q)


def spoken(book, proof):
    """All parts of the sayings at the proof's end."""
    return set().union(*[parts(saying) for side in end_of(book, proof) for saying in side] or [set()])


class DetoursTest(Wrong, unittest.TestCase):
    def check(self, book, proof, out):
        self.assertEqual(end_sheet(book, out), end_sheet(book, proof))
        self.assertNotIn("join", words_of(out))
        self.assertTrue(is_all_tuples(out))
        for part in all_parts(out):
            self.assertLessEqual(spoken(book, part), spoken(book, proof))
        need_proof(book, out)

    def check_refused(self, book, proof, at):
        self.assertIsInstance(at, tuple)
        right, left = at
        self.assertIn((right, left), [pair[:2] for pair in bad_pairs(book)])
        used = [part[1] for part in all_parts(proof) if part[0] == "rule"]
        self.assertIn(right, used)
        self.assertIn(left, used)

    def test_calm_books_give_all_joins_out(self):
        for starts in (True, False):
            for book, proof in some_proofs(61, 300, calm=True, starts=starts):
                self.check(book, proof, without_joins(book, proof))

    def test_books_that_are_not_calm(self):
        refused = 0
        for book, proof in some_proofs(62, 250, calm=False, starts=False):
            try:
                self.check(book, proof, without_joins(book, proof))
            except Refused as error:
                refused += 1
                self.check_refused(book, proof, error.at)
        self.assertGreater(refused, 5)

    def test_rules_that_clash_are_never_refused(self):
        """In a book that is not calm, a proof by rules all of which clash comes out all the same."""
        rng = random.Random(63)
        for _ in range(60):
            calm = random_book(rng, makers=[("m", 2)], rules=5, calm=True)
            proof = random_proof(rng, calm, starts=False)
            book = Book(list(calm.makers) + [("a", 0)], calm.rules + (("a", "left", ()), ("a", "right", ())))
            moved = self.moved(proof)
            self.assertFalse(is_calm(book))
            self.check(book, moved, without_joins(book, moved))

    def moved(self, proof):
        """The proof with rules' numbers greater by two."""
        if proof[0] == "rule":
            return ("rule", proof[1] + 2, proof[2], tuple(map(self.moved, proof[3])))
        return proof[:2] + tuple(map(self.moved, proof[2:]))

    def test_join_out(self):
        for calm in (True, False):
            for book, proof in some_proofs(64, 250, calm=calm, starts=False):
                if proof[0] != "join" or "join" in words_of(proof[2]) + words_of(proof[3]):
                    self.wrong(Refused, {"at": 0}, join_out, book, proof) if calm else None
                    continue
                try:
                    out = join_out(book, proof)
                except Refused as error:
                    self.assertFalse(calm)
                    self.check_refused(book, proof, error.at)
                    continue
                self.check(book, proof, out)

    def test_a_join_on_a_letter(self):
        rng = random.Random(65)
        tried = 0
        for book in random_books(60, 66, rules=6):
            made = [proof for proof in Pool(rng, book, 14).grow(40, joins=False).proofs if proof[0] != "start"]
            found = [("join", letter, one, other) for one in made for other in made
                     for letter in sorted(end_of(book, one)[1] & end_of(book, other)[0] & set("pqr"), key=str)]
            for proof in rng.sample(found, min(len(found), 8)):
                out = join_out(book, proof)
                self.check(book, proof, out)
                self.assertLessEqual(height_of(out), height_of(proof[2]) + height_of(proof[3]))
                tried += 1
        self.assertGreater(tried, 100)

    def test_detour(self):
        one = ("rule", 1, ("q",), (Q,))
        other = ("rule", 0, ("q",), (Q,))
        proof = ("join", ("no", "q"), one, other)
        self.check(NO, proof, join_out(NO, proof))
        self.check(NO, proof, without_joins(NO, proof))
        self.assertEqual(height_of(without_joins(NO, proof)), 0)
        self.wrong(Refused, {"at": 0}, join_out, NO, one)
        self.wrong(Refused, {"at": 0}, join_out, NO, P)
        self.wrong(Refused, {"at": 0}, join_out, NO, ("thin", ((), ()), proof))
        self.wrong(Refused, {"at": 0}, join_out, NO, ("join", "q", proof, Q))
        self.wrong(Refused, {"at": 0}, join_out, NO, ("join", "q", Q, ("thin", ((), ()), proof)))

    def test_silent_joins(self):
        for proof in (("join", "p", Q, Q), ("join", "p", SILENT, P), ("join", "q", P, SILENT), ("join", "q", SILENT, SILENT),
                      ("join", ("no", "p"), P, ("rule", 0, ("p",), (P,))), ("join", "p", P, P)):
            self.check(NO, proof, join_out(NO, proof))
            self.check(NO, proof, without_joins(NO, proof))

    def test_nonsense_is_refused(self):
        for book in random_books(80, 67, calm=False):
            proof = nonsense_proof(book, "q", "r")
            pair = bad_pairs(book)[0][:2]
            self.wrong(Refused, {"at": pair}, without_joins, book, proof)
            self.wrong(Refused, {"at": pair}, join_out, book, proof[2])
            self.wrong(Refused, {"at": 0}, join_out, book, proof)
            for name, places in book.makers:
                self.assertTrue(is_calm(book) or any(len(tells(book, own, row)) == 2 for own, many in book.makers
                                                     for row in rows(many)))
        self.wrong(Refused, {"at": (1, 0)}, without_joins, TONK, nonsense_proof(TONK, "q", "r"))

    def test_a_saying_that_is_on_a_rules_side_and_beside_it(self):
        """The saying of a rule stands above it, too: the proofs are first joined with the other one whole."""
        whole = ("no", "q")
        one = ("rule", 1, ("q",), (("thin", ((), (whole,)), Q),))
        other = ("rule", 0, ("q",), (("thin", ((whole,), ()), Q),))
        again = ("rule", 1, ("q",), (("rule", 0, (whole,), (("rule", 1, ("q",), (Q,)),)),))
        for first in (one, again, ("rule", 1, ("q",), (("rule", 0, ("q",), (one,)),))):
            for second in (other, ("rule", 0, ("q",), (("rule", 1, ("q",), (other,)),))):
                proof = ("join", whole, first, second)
                self.check(NO, proof, without_joins(NO, proof))

    def test_greater_joins(self):
        """Joins on sayings of many makers, one within another, that must go through all of them."""
        for times in (1, 3, 8, 14):
            up, down = Q, Q
            for at in range(times):
                up = ("rule", NO.rules_of("no", "left" if at % 2 == 0 else "right")[0], (no(at, "q"),), (up,))
                down = ("rule", NO.rules_of("no", "right" if at % 2 == 0 else "left")[0], (no(at, "q"),), (down,))
            proof = ("join", no(times, "q"), up, down) if times % 2 == 0 else ("join", no(times, "q"), down, up)
            self.check(NO, proof, without_joins(NO, proof))
        most, pair = LOGIC.rules_of("most", "right")[0], LOGIC.rules_of("most", "left")[0]
        kid = ("start", "p")
        one = ("rule", most, ("p", "p", ("no", "q")), (kid, kid, kid))
        other = ("rule", pair, ("p", "p", ("no", "q")), (kid, kid, kid))
        self.check(LOGIC, ("join", ("most", "p", "p", ("no", "q")), one, other),
                   without_joins(LOGIC, ("join", ("most", "p", "p", ("no", "q")), one, other)))

    def test_what_came_out_goes_in_again(self):
        rng = random.Random(68)
        for book, proof in some_proofs(69, 60, calm=True, starts=False):
            out = without_joins(book, proof)
            self.check(book, out, without_joins(book, out))
            for saying in sorted(end_of(book, out)[1], key=str)[:2]:
                other = random_proof(rng, book, most=10)
                joined = ("join", saying, out, other)
                self.check(book, joined, without_joins(book, joined))

    def test_wrong(self):
        for value in JUNK:
            for call in (join_out, without_joins):
                if not isinstance(value, Book):
                    self.wrong(InvalidBook, {"at": -1}, call, value, None)
                self.wrong(InvalidProof, {"at": 0}, call, AND, value)
        for call in (join_out, without_joins):
            self.wrong(InvalidProof, {"at": 2}, call, AND, ("join", "p", P, 5))
            self.wrong(InvalidProof, {"at": 1}, call, AND, ("join", "p", ("told", 0), P))

    def test_a_join_in_each_place_of_a_rule(self):
        book = read_book("maker m 3\nright m: | 1; | 2; | 3\nleft m: 1 2 3 |")
        kids = tuple(("start", letter) for letter in "pqr")
        one = ("rule", 1, tuple("pqr"), kids)
        other = ("rule", 0, tuple("pqr"), (("rule", 1, tuple("pqr"), kids),))
        proof = ("join", ("m", "p", "q", "r"), one, other)
        self.check(book, proof, join_out(book, proof))
        self.assertEqual(height_of(join_out(book, proof)), 1)


if __name__ == "__main__":
    unittest.main()

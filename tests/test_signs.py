"""[52] and [53]: books of many signs."""

import itertools
import random
import unittest

from saymakers.books import Book, maker_table
from saymakers.court import is_calm
from saymakers.errors import InvalidBook, InvalidRow, InvalidSigned, NoMaker, Refused
from saymakers.signs import Signed, awake_signed, odds_hold, plain_signed, signed_court, signed_nonsense, signed_table
from tests.tools import (
    AND, EMPTY, JUNK, LOGIC, MAY, TONK, Wrong, all_parts, changed, is_all_tuples, listed, lots, random_books, rows, tells)

THREE = Signed(3, [("mid", 2)], [("mid", [0, 1], [[(0, 1)], [(0, 2), (1, 2)]]), ("mid", [2], [[(2, 1)]]),
                                 ("mid", [0], [[(2, 2)]])])


def random_signed(rng, count=None, rules=7):
    """Some small book of signs."""
    count = count or rng.choice((2, 3, 3, 4))
    makers = [(name, rng.choice((0, 1, 1, 2, 2))) for name in ("n", "m")[:rng.randint(1, 2)]]
    told = []
    for _ in range(rng.randint(0, rules)):
        name, places = rng.choice(makers)
        pairs = list(itertools.product(range(count), range(1, places + 1)))
        premises = [[pair for pair in pairs if rng.random() < 0.45] for _ in range(rng.choice((0, 1, 1, 2)))]
        told.append((name, rng.sample(range(count), rng.randint(1, count - 1)), premises))
    return Signed(count, makers, told)


def some_signed(seed, many, **more):
    """So many books of signs."""
    rng = random.Random(seed)
    return [random_signed(rng, **more) for _ in range(many)]


def awake(signed, name, row):
    """The numbers of the rules awake in the row, reckoned here."""
    return [number for number, (own, lot, premises) in enumerate(signed.rules)
            if own == name and all({(row[place - 1], place) for sign, place in premise} & set(premise)
                                   for premise in premises)]


def common(signed, numbers):
    """The set of signs that the rules' lots share."""
    return set(range(signed.count)).intersection(*[signed.rules[number][1] for number in numbers])


def sign_end(signed, proof):
    """The end of a proof of signs, as a set of pairs."""
    word = proof[0]
    if word == "start":
        return {(sign, proof[1]) for sign in range(signed.count)}
    if word == "thin":
        return set(proof[1]) | sign_end(signed, proof[2])
    if word == "join":
        one, other = sign_end(signed, proof[2]), sign_end(signed, proof[3])
        return {pair for pair in one | other if pair[1] != proof[1]} | (one & other)
    name, lot, premises = signed.rules[proof[1]]
    end = {(sign, (name,) + proof[2]) for sign in lot}
    for premise, kid in zip(premises, proof[3], strict=True):
        end |= sign_end(signed, kid) - {(sign, proof[2][place - 1]) for sign, place in premise}
    return end


class SignedTest(Wrong, unittest.TestCase):
    def test_attributes(self):
        signed = Signed(3, [["n", 1], ("m", 2)], [
            ["n", [1, 0, 1], [[[2, 1], (0, 1), [2, 1]], []]], ("m", (2,), ()), ("n", (0, 1), ((), ((0, 1), (2, 1)), ()))])
        self.assertEqual(signed.count, 3)
        self.assertEqual(signed.makers, (("m", 2), ("n", 1)))
        self.assertEqual(signed.rules, (("m", (2,), ()), ("n", (0, 1), ((), ((0, 1), (2, 1))))))
        self.assertTrue(is_all_tuples(signed.rules))
        self.assertEqual(Signed(2, (), ()).rules, ())
        self.assertEqual(Signed(count=3, makers=signed.makers[::-1], rules=signed.rules[::-1]), signed)

    def test_equality(self):
        one = Signed(2, [("m", 0)], [])
        self.assertTrue(one == Signed(2, (("m", 0),), ()))
        for other in (Signed(3, [("m", 0)], []), Signed(2, [("m", 1)], []), Signed(2, [("m", 0)], [("m", [0], [])]),
                      Book([("m", 0)], []), (2, one.makers, one.rules), None):
            self.assertFalse(one == other)
            self.assertTrue(one != other)
        self.assertFalse(Book([("m", 0)], []) == one)

    def test_wrong(self):
        for count in (1, 5, 0, -2, True, None, "3", [3], EMPTY, (2,)):
            self.wrong(InvalidSigned, {"at": 0}, Signed, count, None, None)
        for makers in (None, 5, "m", [("m", 1), ("m", 1)], [("m", 4)], [("M", 1)], [("m", True)], [("m",)], [5], EMPTY,
                       [("m" + sign, 1) for sign in "abcdefghijklm"]):
            self.wrong(InvalidSigned, {"at": 1}, Signed, 3, makers, None)
        for rules in (None, 5, "m", EMPTY, [5], [("m", [0])], [("n", [0], [])], [("m", [], [])], [("m", [0, 1, 2], [])],
                      [("m", [0, 0, 1, 2], [])], [("m", [3], [])], [("m", [True], [])], [("m", 0, [])], [("m", [0], 5)],
                      [("m", [0], [5])], [("m", [0], [[5]])], [("m", [0], [[(0,)]])], [("m", [0], [[(3, 1)]])],
                      [("m", [0], [[(0, 0)]])], [("m", [0], [[(0, 2)]])], [("m", [0], [[(True, 1)]])],
                      [("m", [0], [[(0, True)]])], [("m", [0], []), ("m", [0], [], [])], [(["m"], [0], [])], [EMPTY],
                      [("m", [-1], [])], [("m", ["0"], [])], [("m", [0], [[(0, 1, 1)]])]):
            self.wrong(InvalidSigned, {"at": 2}, Signed, 3, [("m", 1)], rules)
        self.assertEqual(len(Signed(2, [("m" + sign, 1) for sign in "abcdefghijkl"], []).makers), 12)
        for value in JUNK:
            for call, args in ((awake_signed, (None, None)), (signed_table, (None,)), (signed_court, ()),
                               (odds_hold, (None,)), (signed_nonsense, ())):
                self.wrong(InvalidSigned, {"at": -1}, call, value, *args)
        for name in ("n", None, 5, ["mid"], EMPTY):
            self.wrong(NoMaker, {"name": name}, awake_signed, THREE, name, None)
            self.wrong(NoMaker, {"name": name}, signed_table, THREE, name)
        for row in (None, 5, (), (0,), (0, 0, 0), (0, 3), (0, -1), (0, True), "00", EMPTY, ((0,), 0)):
            self.wrong(InvalidRow, {"at": -1}, awake_signed, THREE, "mid", row)
        for value in JUNK:
            if not isinstance(value, Book):
                self.wrong(InvalidBook, {"at": -1}, plain_signed, value)

    def test_awake_and_tables(self):
        self.assertEqual(THREE.rules, (
            ("mid", (0,), (((2, 2),),)), ("mid", (0, 1), (((0, 1),), ((0, 2), (1, 2)))), ("mid", (2,), (((2, 1),),))))
        self.assertEqual(awake_signed(THREE, "mid", [2, 2]), (0, 2))
        self.assertEqual(awake_signed(THREE, name="mid", row=(0, 1)), (1,))
        self.assertEqual(signed_table(THREE, "mid"), (
            (0, 1), (0, 1), (0,), (0, 1, 2), (0, 1, 2), (0,), (2,), (2,), ()))
        for signed in some_signed(81, 150):
            for name, places in signed.makers:
                told = [awake(signed, name, row) for row in rows(places, signed.count)]
                self.assertEqual([awake_signed(signed, name, row) for row in rows(places, signed.count)],
                                 list(map(tuple, told)))
                self.assertEqual(signed_table(signed, name), tuple(tuple(sorted(common(signed, each))) for each in told))

    def test_empty_premise_and_no_premises(self):
        signed = Signed(2, [("m", 1), ("t", 0)], [("m", [0], [[]]), ("m", [1], []), ("t", [1], [])])
        self.assertEqual([awake_signed(signed, "m", (sign,)) for sign in (0, 1)], [(1,), (1,)])
        self.assertEqual(awake_signed(signed, "t", ()), (2,))
        self.assertEqual(signed_table(signed, "t"), ((1,),))

    def test_plain_signed(self):
        self.assertEqual(plain_signed(TONK), Signed(2, [("tonk", 2)], [("tonk", [1], [[(1, 1)]]), ("tonk", [0], [[(0, 2)]])]))
        for book in random_books(120, 82) + [AND, EMPTY, MAY, LOGIC]:
            signed = plain_signed(book)
            self.assertEqual((signed.count, signed.makers, len(signed.rules)), (2, book.makers, len(book.rules)))
            self.assertEqual(signed_court(signed) == ("calm",), is_calm(book))
            for name, places in book.makers:
                told = [tells(book, name, row) for row in rows(places)]
                self.assertEqual(signed_table(signed, name), tuple(
                    () if len(each) == 2 else tuple(each) or (0, 1) for each in told))
                if is_calm(book):
                    self.assertEqual(maker_table(book, name), tuple(
                        each[0] if len(each) == 1 else None for each in signed_table(signed, name)))


class CourtTest(Wrong, unittest.TestCase):
    def first_odds(self, signed):
        """What the court tells, reckoned here."""
        for name, places in signed.makers:
            for row in rows(places, signed.count):
                numbers = awake(signed, name, row)
                for lot in lots(numbers):
                    if not common(signed, lot):
                        return ("odds", name, row, lot)
        return ("calm",)

    def right(self, signed, value):
        """Whether the value is a paper of the court, reckoned here."""
        if value == ("calm",):
            return type(value) is tuple and self.first_odds(signed) == value
        if not isinstance(value, tuple) or not is_all_tuples(value) or len(value) != 4 or value[0] != "odds":
            return False
        word, name, row, numbers = value
        if not isinstance(name, str) or name not in dict(signed.makers) or not isinstance(row, tuple):
            return False
        if repr(row) not in map(repr, rows(dict(signed.makers)[name], signed.count)) or type(numbers) is not tuple:
            return False
        if not all(type(number) is int for number in numbers) or list(numbers) != sorted(set(numbers)):
            return False
        return set(numbers) <= set(awake(signed, name, row)) and not common(signed, numbers)

    def test_court(self):
        self.assertEqual(signed_court(THREE), ("odds", "mid", (2, 2), (0, 2)))
        self.assertEqual(signed_court(Signed(4, (), ())), ("calm",))
        self.assertEqual(signed_court(plain_signed(AND)), ("calm",))
        for signed in some_signed(83, 300):
            self.assertEqual(signed_court(signed), self.first_odds(signed))
            self.assertIs(odds_hold(signed, signed_court(signed)), True)
            self.assertIs(odds_hold(signed, list(signed_court(signed))), False)

    def test_as_many_rules_as_signs_are_at_odds_if_any_are(self):
        seen = set()
        for signed in some_signed(84, 400):
            paper = signed_court(signed)
            if paper[0] == "odds":
                self.assertLessEqual(len(paper[3]), signed.count)
                seen.add(len(paper[3]))
        self.assertEqual(seen & {2, 3}, {2, 3})
        pairwise = Signed(4, [("m", 0)], [("m", [other for other in range(4) if other != sign], []) for sign in range(4)])
        self.assertEqual(signed_court(pairwise), ("odds", "m", (), (0, 1, 2, 3)))

    def test_odds_hold(self):
        for signed in some_signed(85, 60) + [THREE, plain_signed(AND), Signed(2, (), ())]:
            values = [("calm",), ("odds",), ("calm", ()), signed_court(signed)] + list(JUNK)
            for name, places in signed.makers:
                for row in rows(places, signed.count):
                    values.extend(("odds", name, row, lot) for lot in lots(range(len(signed.rules)), 3))
            values += list(changed(signed_court(signed))) + [listed(signed_court(signed))]
            for value in values:
                self.assertIs(odds_hold(signed, value), self.right(signed, value), (signed.rules, value))

    def test_nonsense(self):
        self.wrong(Refused, {"at": -1}, signed_nonsense, plain_signed(AND))
        self.wrong(Refused, {"at": -1}, signed_nonsense, Signed(3, (), ()))
        sheet, proof = signed_nonsense(THREE)
        self.assertEqual(sheet, ((0, "c"), (1, "c")))
        found = 0
        pairwise = Signed(4, [("m", 0)], [("m", [other for other in range(4) if other != sign], []) for sign in range(4)])
        for signed in some_signed(86, 300) + [THREE, pairwise]:
            paper = signed_court(signed)
            if paper == ("calm",):
                self.wrong(Refused, {"at": -1}, signed_nonsense, signed)
                continue
            found += 1
            sheet, proof = signed_nonsense(signed)
            word, name, row, numbers = paper
            self.assertEqual(sheet, tuple((other, "abcd"[sign]) for sign in sorted(set(row))
                                          for other in range(signed.count) if other != sign))
            self.assertTrue(is_all_tuples(proof))
            self.assertEqual(sign_end(signed, proof), set(sheet))
            said = all_parts(proof)
            self.assertEqual(sorted(part[1] for part in said if part[0] == "rule"), list(numbers))
            self.assertEqual(sum(part[0] == "join" for part in said), len(numbers) - 1)
            for part in said:
                if part[0] == "thin":
                    self.assertEqual(part[1], tuple(sorted(set(part[1]), key=lambda pair: (pair[1], pair[0]))))
                if part[0] in ("rule", "join"):
                    letters = tuple("abcd"[sign] for sign in row)
                    self.assertEqual(part[2] if part[0] == "rule" else part[1],
                                     letters if part[0] == "rule" else (name,) + letters)
        self.assertGreater(found, 50)

    def test_refusal_of_all_signs(self):
        """A book is calm exactly if the refusal of all signs has no proof: it lies about the refusal told."""
        for signed in some_signed(87, 200, count=3):
            letters = {(other, "abc"[sign]) for sign in range(3) for other in range(3) if other != sign}
            if signed_court(signed)[0] == "odds":
                self.assertLessEqual(set(signed_nonsense(signed)[0]), letters)
            else:
                # Letters with their own signs go on to a world of any sayings, as no row is at odds.
                self.assertTrue(all(table for name, places in signed.makers for table in signed_table(signed, name)))


if __name__ == "__main__":
    unittest.main()

"""[51]: rules that follow carefully, books apart by careful proofs, what follows carefully and what follows at all."""

import itertools
import random
import unittest

from saymakers.books import Book, put_rules, read_book
from saymakers.careful import careful_paper
from saymakers.errors import InvalidBook, InvalidRules, NotCalm, Refused
from saymakers.facts import follow_paper
from saymakers.follows import careful_apart, plain_apart, rule_case, rule_follows
from tests.test_careful import ABSURD, some_cases
from tests.test_heaps import BADLY, FAULTY, IF, OR, careful_book
from tests.test_worlds import closed
from tests.tools import (
    AND, EMPTY, JUNK, MAY, NO, TONK, Wrong, is_all_tuples, is_same, listed, premises_of, rows, tells, wakes)

HALF = read_book("maker m 1\nright m: | 1")
WRONG_BOOKS = ((TONK, NotCalm, {"right": 1, "left": 0, "row": (1, 0)}), (FAULTY, Refused, {"at": (1, 0)}),
               (BADLY, NotCalm, {"right": 1, "left": 0, "row": (0, 1)}))
NO_RULES = (("or", "right", [((), (3,))]), ("and", "right", []), ("or", "odd", []), ("or", "right"),
            ("or", "right", [((), (1, 2))]), ("or", "left", [((), (1,)), ((1,), (2, 1))]), ("or", "right", [[[0], []]]),
            ("or", "right", 5), ("or", "right", [((True,), ())]), ("Or", "right", []))


def own_saying(book, name):
    """The maker's saying of letters."""
    return (name,) + tuple("abc"[:dict(book.makers)[name]])


def above(row, more):
    """Whether the one row is 1 wherever the other is."""
    return all(truth <= other for truth, other in zip(row, more))


def quiet(lefts, told, row):
    """Whether the row, one of those told, is quiet."""
    return all(any(not wakes([premise], more) and quiet(lefts, told, more) for premise in premises if premise[1]
                   for more in told if above(row, more) and more != row)
               for premises in lefts if wakes(premises, row))


def follows_by_rows(book, rule):
    """Whether the rule follows, reckoned by rows alone."""
    name, side, premises = rule
    every = rows(dict(book.makers)[name])
    own = [more for other, at, more in book.rules if (other, at) == (name, side)]
    if side == "right":
        awake = [row for row in every if wakes(premises, row)]
        return all(any(all(wakes(more, greater) for greater in awake if above(row, greater)) for more in own)
                   for row in awake)
    firm, soft = [each for each in premises if each[1]], [each for each in premises if not each[1]]
    told = [row for row in every if wakes(firm, row)]
    return not any(wakes(soft, row) and quiet(own, told, row) for row in told)


def first_apart(book):
    """(maker, row) where careful and plain following come apart, reckoned by rows alone; else None."""
    for name, places in book.makers:
        every = rows(places)
        rights, lefts = [[more for own, at, more in book.rules if (own, at) == (name, side)] for side in ("right", "left")]
        for row in every:
            if any(wakes(more, row) for more in rights) and not any(
                    all(wakes(more, greater) for greater in every if above(row, greater)) for more in rights):
                return name, row
            if any(wakes(more, row) for more in lefts) and quiet(lefts, every, row):
                return name, row
    return None


def some_rule(rng, book):
    """Some rule without fault for a maker of the book."""
    name, places = rng.choice(book.makers)
    lot = [premise for premise in premises_of(places) if len(premise[1]) < 2]
    return name, rng.choice(("left", "right")), tuple(rng.sample(lot, min(len(lot), rng.randint(0, 3))))


def in_order(rule):
    """The rule with its premises ascending."""
    return rule[0], rule[1], tuple(sorted(set(rule[2])))


class CaseTest(Wrong, unittest.TestCase):
    def test_cases(self):
        or_ab, if_ab = ("or", "a", "b"), ("if", "a", "b")
        for book, rule, case in (
                (OR, OR.rules[1], ((((), ("a",)),), ((), (or_ab,)))),
                (OR, OR.rules[0], (((("a",), ("e",)), (("b",), ("e",)), ((), (or_ab,))), ((), ("e",)))),
                (IF, IF.rules[1], (((("a",), ("b",)),), ((), (if_ab,)))),
                (IF, IF.rules[0], ((((), ("a",)), (("b",), ("e",)), ((), (if_ab,))), ((), ("e",)))),
                (OR, ("or", "right", [((2,), ()), ((), (1,))]), ((((), ("a",)), (("b",), ())), ((), (or_ab,)))),
                (OR, ("or", "right", ()), ((), ((), (or_ab,)))), (OR, ("or", "left", ()), ((((), (or_ab,)),), ((), ("e",)))),
                (OR, ("or", "left", [((), ())]), ((((), ("e",)), ((), (or_ab,))), ((), ("e",)))),
                (OR, ("or", "right", [((), ())]), ((((), ()),), ((), (or_ab,)))),
                (ABSURD, ("bot", "left", ()), ((((), (("bot",),)),), ((), ("e",)))),
                (ABSURD, ("bot", "right", [((), ()), ((), ())]), ((((), ()),), ((), (("bot",),)))),
                (Book([("m", 3)], ()), ("m", "left", [((3, 1), (2,)), ((1, 2, 3), ())]),
                 (((("a", "b", "c"), ("e",)), (("a", "c"), ("b",)), ((), (("m", "a", "b", "c"),))), ((), ("e",))))):
            found = rule_case(book, rule)
            self.assertTrue(is_same(found, case), (rule, found))
            self.assertTrue(is_same(rule_case(book, listed(rule)), case))

    def test_cases_are_questions_of_careful_papers(self):
        rng = random.Random(510)
        for _ in range(120):
            book = careful_book(rng)
            rule = some_rule(rng, book)
            facts, sheet = rule_case(book, rule)
            self.assertTrue(is_all_tuples((facts, sheet)))
            self.assertEqual(rule_follows(book, rule), careful_paper(book, facts, sheet)[0] == "proof", (book.rules, rule))

    def test_own_rules_follow(self):
        rng = random.Random(511)
        for _ in range(150):
            book = careful_book(rng)
            for rule in book.rules:
                self.assertIs(rule_follows(book, rule), True)
                self.assertIs(rule_follows(book, (rule[0], rule[1], list(rule[2]) + [((), ())])), True)

    def test_rules_follow_by_rows(self):
        rng = random.Random(512)
        found = {}
        for _ in range(1200):
            book = careful_book(rng, rng.choice((None, [("m", 2)], [("m", 3)], [("m", 1)])), 6)
            rule = some_rule(rng, book)
            right = follows_by_rows(book, rule)
            self.assertIs(rule_follows(book, rule), right, (book.rules, rule))
            found[rule[1], right] = found.get((rule[1], right), 0) + 1
        self.assertGreater(min(found.values()), 30)

    def test_all_rules_of_one_place(self):
        lot = [premise for premise in premises_of(1) if len(premise[1]) < 2]
        every = [("m", side, told) for side in ("left", "right") for many in (0, 1, 2) for told in itertools.combinations(lot, many)]
        for own in ([], [every[0]], [every[-1]], [("m", "right", (((), (1,)),))], [("m", "left", (((1,), ()),))],
                    [("m", "left", (((), (1,)),)), ("m", "right", (((1,), ()),))]):
            book = Book([("m", 1)], own)
            if any(len(tells(book, "m", row)) > 1 for row in rows(1)):
                continue
            for rule in every:
                facts, sheet = rule_case(book, rule)
                self.assertIs(rule_follows(book, rule), follows_by_rows(book, rule))
                self.assertEqual(rule_follows(book, rule), careful_paper(book, facts, sheet)[0] == "proof")

    def test_quiet_rows(self):
        # All premises of the rule hold where those of two rules do, in one row each.
        book = read_book("maker m 2\nleft m: | 1\nleft m: | 2")
        self.assertIs(rule_follows(book, ("m", "left", [((), (1,))])), True)
        self.assertIs(rule_follows(book, ("m", "left", [])), False)
        self.assertIs(rule_follows(book, ("m", "left", [((), (1,)), ((2,), ())])), True)
        # A left rule whose row is quiet, as what it asks fails above.
        late = read_book("maker m 2\nleft m: 1 | 2; 2 |")
        self.assertIs(rule_follows(late, ("m", "left", [((1,), ()), ((2,), ())])), False)
        self.assertIs(rule_follows(late, late.rules[0]), True)

    def test_largest(self):
        rng = random.Random(513)
        lot = [premise for premise in premises_of(3) if len(premise[1]) < 2]
        rules = []
        while len(rules) < 8:
            rule = ("m", rng.choice(("left", "right")), rng.sample(lot, 6))
            book = Book([("m", 3)], rules + [rule])
            if all(len(tells(book, "m", row)) < 2 for row in rows(3)):
                rules.append(rule)
        book = Book([("m", 3), ("n", 3), ("o", 3), ("s", 0)], rules)
        for _ in range(20):
            rule = ("m", rng.choice(("left", "right")), rng.sample(lot, 6))
            self.assertIs(rule_follows(book, rule), follows_by_rows(book, in_order(rule)))
        careful_apart(book, Book(book.makers, rules[:4]))
        plain_apart(book)

    def test_wrong(self):
        for call in (rule_case, rule_follows):
            for value in JUNK[:12]:
                self.wrong(InvalidBook, {"at": -1}, call, value, 5)
            for book, error, told in WRONG_BOOKS:
                self.wrong(error, told, call, book, None)
                self.wrong(error, told, call, book, book.rules[0])
            for rule in NO_RULES + tuple(each for each in JUNK if each not in ((), [])):
                self.wrong(InvalidRules, {"at": -1}, call, OR, rule)
            self.wrong(InvalidRules, {"at": -1}, call, EMPTY, OR.rules[0])


class ApartTest(Wrong, unittest.TestCase):
    def first(self, one, other):
        """The first rule of one that does not follow in the other, by rows."""
        for which, (own, more) in enumerate(((one, other), (other, one))):
            for rule in own.rules:
                if not follows_by_rows(more, rule):
                    return which, rule
        return None

    def test_apart(self):
        rng = random.Random(514)
        found = {}
        for _ in range(500):
            one = careful_book(rng, rng.choice((None, [("m", 2)], [("m", 1), ("n", 2)])))
            other = careful_book(rng, list(one.makers))
            if rng.random() < 0.5:
                other = Book(one.makers, [rule for rule in one.rules if rng.random() < 0.8])
            apart = careful_apart(one, other)
            self.assertTrue(is_same(apart, self.first(one, other)), (one.rules, other.rules))
            found[apart if apart is None else apart[0]] = True
            if apart is not None:
                which, rule = apart
                case = rule_case((one, other)[1 - which], rule)
                self.assertEqual(careful_paper((one, other)[which], *case)[0], "proof")
                self.assertEqual(careful_paper((one, other)[1 - which], *case)[0], "heap")
        self.assertEqual(set(found), {None, 0, 1})

    def test_not_apart_books_have_the_same_careful_sheets(self):
        cases, met = list(some_cases(515, 150)), 0
        for book, facts, sheet in cases:
            for rule in book.rules:
                other = Book(book.makers, [each for each in book.rules if each != rule])
                if careful_apart(book, other) is None:
                    met += 1
                    self.assertEqual(careful_paper(book, facts, sheet)[0], careful_paper(other, facts, sheet)[0])
        self.assertGreater(met, 10)

    def test_edges(self):
        self.assertIsNone(careful_apart(EMPTY, EMPTY))
        self.assertIsNone(careful_apart(OR, OR))
        bare = Book(OR.makers, ())
        self.assertEqual(careful_apart(OR, bare), (0, OR.rules[0]))
        self.assertEqual(careful_apart(bare, OR), (1, OR.rules[0]))
        # Rules with a premise more than they need, and rules that are never awake.
        self.assertIsNone(careful_apart(OR, put_rules(OR, [("or", "right", [((), (1,)), ((), (2,))]), ("or", "left", [((), ())])])))
        self.assertIsNone(careful_apart(AND, put_rules(AND, [("and", "left", [((1,), ())])])))

    def test_wrong(self):
        for value in JUNK[:12]:
            self.wrong(InvalidBook, {"at": -1}, careful_apart, value, TONK)
            self.wrong(InvalidBook, {"at": -1}, careful_apart, OR, value)
            self.wrong(InvalidBook, {"at": -1}, plain_apart, value)
        for book, error, told in WRONG_BOOKS:
            self.wrong(error, told, careful_apart, book, 5)
            self.wrong(error, told, careful_apart, OR, book)
            self.wrong(error, told, careful_apart, book, WRONG_BOOKS[0][0])
            self.wrong(error, told, plain_apart, book)
        self.wrong(Refused, {"at": -1}, careful_apart, OR, IF)
        self.wrong(Refused, {"at": -1}, careful_apart, EMPTY, MAY)


class PlainTest(unittest.TestCase):
    def check(self, book, found):
        """The sheet follows from the facts and not carefully, and they are those of the row."""
        name, row, facts, sheet = found
        self.assertTrue(is_all_tuples(found))
        whole = own_saying(book, name)
        self.assertEqual(sheet, ((), ("e",)))
        self.assertEqual(facts[:-1], tuple(((), (letter,)) if truth else ((letter,), ("e",))
                                           for letter, truth in zip(whole[1:], row)))
        told = tells(book, name, row)
        self.assertEqual(facts[-1], ((whole,), ("e",)) if told == {1} else ((), (whole,)))
        self.assertEqual(follow_paper(book, facts, sheet)[0], "tree")
        self.assertEqual(careful_paper(book, facts, sheet)[0], "heap")

    def test_first_where_it_fails(self):
        rng = random.Random(516)
        met = {}
        for _ in range(700):
            book = careful_book(rng, rng.choice((None, [("m", 2)], [("m", 3)], [("n", 1), ("m", 2), ("a", 0)])), 6)
            found = plain_apart(book)
            self.assertEqual(None if found is None else found[:2], first_apart(book), book.rules)
            if found is not None:
                self.check(book, found)
                met[tells(book, found[0], found[1]) == {1}] = met.get(tells(book, found[0], found[1]) == {1}, 0) + 1
            else:
                met[None] = met.get(None, 0) + 1
        self.assertGreater(min(met[None], met[True], met[False]), 15)

    def test_none_exactly_if_the_same_sheets_follow(self):
        met = 0
        for book, facts, sheet in some_cases(517, 1500):
            paper, plain = careful_paper(book, facts, sheet), follow_paper(book, facts, sheet)
            if paper[0] == "proof":
                self.assertEqual(plain[0], "tree")
            elif plain[0] == "tree":
                self.assertIsNotNone(plain_apart(book), (book.rules, facts, sheet))
                met += 1
        self.assertGreater(met, 5)

    def test_edges(self):
        self.assertIsNone(plain_apart(EMPTY))
        self.assertIsNone(plain_apart(OR))
        self.assertIsNone(plain_apart(AND))
        self.assertIsNone(plain_apart(HALF))
        self.assertEqual(plain_apart(IF)[:2], ("if", (0, 0)))
        self.assertEqual(plain_apart(NO), ("no", (0,), ((("a",), ("e",)), ((("no", "a"),), ("e",))), ((), ("e",))))
        self.assertIsNone(plain_apart(read_book("maker t 0\nmaker f 0\nright t:\nleft f:")))
        lefts = read_book("maker m 1\nleft m: 1 |")
        self.assertIsNone(plain_apart(lefts))
        self.assertIsNone(plain_apart(read_book("maker m 2\nleft m: | 1\nleft m: | 2; 1 |")))
        quiet_one = read_book("maker m 2\nleft m: 1 | 2; 2 |")
        self.check(quiet_one, plain_apart(quiet_one))
        self.assertEqual(plain_apart(quiet_one)[:2], ("m", (0, 0)))
        self.assertEqual(closed([own_saying(quiet_one, "m")]), ("a", "b", ("m", "a", "b")))


if __name__ == "__main__":
    unittest.main()
